"""The refusals of the program."""


class StuckError(ValueError):
    """Stands above all refusals."""


class NoStep(StuckError):
    """A move can't be; place is its number in the weaving."""

    def __init__(self, place):
        self.place = place


class NoRow(StuckError):
    """A row isn't there, or can't be changed so."""


class NoLock(StuckError):
    """A thing is no lock of the program."""


class NoText(StuckError):
    """A text isn't written as it should be."""


class NoLine(StuckError):
    """A line says nothing that the desk knows."""
