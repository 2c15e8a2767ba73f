"""Mends: the fewest locks that, asked for instead of waited for, let a paper be found."""

from neverstuck.bounding import weighed
from neverstuck.changing import place_of, program_with
from neverstuck.errors import NoRow
from neverstuck.finding import paper_by
from neverstuck.pairs import living_rows


def as_ask(row):
    """A within as an ask that does nothing where it is refused."""
    sort, lock, lot = row
    return ("ask", lock, lot, ())


def asked_instead(program, some):
    asked = program
    # No row comes or goes, so numbers stay as they are.
    for number in some:
        deed, path, row = place_of(asked, number)
        if row[0] != "within":
            raise NoRow("the row of this number is no within")
        asked = program_with(asked, deed, path, (as_ask(row),))
    return asked


def rows_asked(rows, some):
    """The weighed rows of asked_instead: what is known and held around a row is the same there."""
    return [(number, deed, as_ask(row) if number in some else row, gaps, held)
            for number, deed, row, gaps, held in rows]


def some_by_size(numbers, most):
    """The rising tuples of at most so many of rising numbers, by size."""
    found = [()]
    longest = [()]
    for turn in range(most):
        longest = [some + (number,) for some in longest for number in numbers if number > max(some, default=-1)]
        found.extend(longest)
    return found


def mends(program, most):
    rows = weighed(program, living_rows(program))
    # A dead within takes nothing, so that nothing is mended by it.
    numbers = [number for number, deed, row, gaps, held in rows if row[0] == "within"]
    for some in some_by_size(numbers, most):
        if paper_by(program, rows_asked(rows, some)) is not None:
            return some
    return None
