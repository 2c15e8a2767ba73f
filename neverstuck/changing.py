"""Programs changed: locks put in and taken out."""

from neverstuck.errors import NoLock, NoRow
from neverstuck.programs import MOST_DEEP, MOST_IN_LOT, MOST_ROWS, SHAPES, locks_of, lots_of, paths_in, places_of
from neverstuck.scenes import lot_on, rows_in
from neverstuck.terms import is_lock


def place_of(program, number):
    """The row of a number, as (deed, path, row)."""
    places = places_of(program)
    if not 0 <= number < len(places):
        raise NoRow("there is no row of this number")
    return places[number]


def locking_place(program, number):
    deed, path, row = place_of(program, number)
    if not locks_of(row):
        raise NoRow("the row of this number has no lock")
    return (deed, path, row)


def lot_with(lot, path, some):
    """The lot with some rows in the place of the one that a path in it tells."""
    at = path[0]
    if len(path) > 1:
        row = lot[at]
        place = SHAPES[row[0]][0] + path[1]
        some = (row[:place] + (lot_with(row[place], path[2:], some),) + row[place + 1:],)
    return lot[:at] + some + lot[at + 1:]


def program_with(program, deed, path, some):
    """The program with some rows in the place of one."""
    names, deeds = program
    name, params, rows = deeds[deed]
    return (names, deeds[:deed] + ((name, params, lot_with(rows, path, some)),) + deeds[deed + 1:])


def without_lock(program, number):
    deed, path, row = locking_place(program, number)
    some = lots_of(row)[0]
    if len(lot_on(rows_in(program, deed), path)) - 1 + len(some) > MOST_IN_LOT:
        raise NoRow("the lot would have too many rows")
    return program_with(program, deed, path, some)


def deepest(lot, deep):
    """How deep the lots in a lot stand that stands so deep itself, as deep as the deepest."""
    return max([deepest(inner, deep + 1) for row in lot for inner in lots_of(row)], default=deep)


def with_lock(program, number, lock):
    deed, path, row = place_of(program, number)
    # A path has two places for each lot in a lot, and one.
    deep = len(path) // 2 + 1
    if deepest((row,), deep + 1) > MOST_DEEP:
        raise NoRow("a lot would stand too deep")
    if len(places_of(program)) >= MOST_ROWS:
        raise NoRow("there would be too many rows")
    if not is_lock(lock, program[0], program[1][deed][1]):
        raise NoLock("this is no lock of the program's names and the deed's params")
    return program_with(program, deed, path, (("within", lock, (row,)),))


def old_number(program, number, other):
    deed, path, row = locking_place(program, number)
    if other < number:
        return other
    first, *gone = lots_of(row)
    if other < number + len(paths_in(first, ())):
        return other + 1
    return other + 1 + sum([len(paths_in(lot, ())) for lot in gone])
