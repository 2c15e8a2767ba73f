"""Programs: what one is, its rows in order, and which deeds come to which."""

from neverstuck.terms import is_lock, is_term, is_tuple_of, is_word

MOST_NAMES = 6
MOST_DEEDS = 6
MOST_PARAMS = 3
MOST_IN_LOT = 12
MOST_DEEP = 5
MOST_ROWS = 60
FEWEST_IN_ALL = 2
MOST_IN_ALL = 4

# For each sort of row: how many things stand ahead of its lots, and how many lots it has.
SHAPES = {
    "say": (2, 0),
    "call": (3, 0),
    "within": (2, 1),
    "all": (2, 1),
    "ask": (2, 2),
    "by": (3, 3),
    "either": (1, 2),
    "again": (1, 1),
}


def lots_of(row):
    return row[SHAPES[row[0]][0]:]


def locks_of(row):
    """The locks that stand in a row, each as (name, term)."""
    if row[0] == "all":
        return row[1]
    return (row[1],) if row[0] in ("within", "ask") else ()


def are_unlike_words(thing, least, most):
    if not isinstance(thing, tuple) or not least <= len(thing) <= most:
        return False
    return all([is_word(word) for word in thing]) and len(set(thing)) == len(thing)


def are_names(thing):
    return are_unlike_words(thing, 1, MOST_NAMES) and list(thing) == sorted(thing)


def are_heads(deeds):
    """Whether these are deeds, as far as can be said without their rows."""
    if not isinstance(deeds, tuple) or not all([is_tuple_of(deed, 3) for deed in deeds]):
        return False
    if not are_unlike_words(tuple([deed[0] for deed in deeds]), 1, MOST_DEEDS):
        return False
    return all([are_unlike_words(deed[1], 0, MOST_PARAMS) for deed in deeds])


def are_locks(thing, names, params):
    if not isinstance(thing, tuple) or not FEWEST_IN_ALL <= len(thing) <= MOST_IN_ALL:
        return False
    return all([is_lock(lock, names, params) for lock in thing]) and len(set(thing)) == len(thing)


def is_call(deed, terms, counts, params):
    if not is_word(deed) or deed not in counts or not is_tuple_of(terms, counts[deed]):
        return False
    return all([is_term(term, params) for term in terms])


def is_shaped(row):
    """Whether this is a tuple of the length of its sort of row."""
    if not isinstance(row, tuple) or len(row) == 0:
        return False
    if not isinstance(row[0], str) or row[0] not in SHAPES:
        return False
    ahead, lots = SHAPES[row[0]]
    return len(row) == ahead + lots


def is_right_ahead(row, names, counts, params):
    """Whether what stands ahead of a row's lots is right."""
    sort = row[0]
    if sort == "say":
        return is_word(row[1])
    if sort == "call":
        return is_call(row[1], row[2], counts, params)
    if sort == "all":
        return are_locks(row[1], names, params)
    if sort in ("within", "ask"):
        return is_lock(row[1], names, params)
    if sort == "by":
        return is_term(row[1], params) and is_term(row[2], params)
    return True


def rows_left(lot, deep, left, names, counts, params):
    """How many of so many rows are left behind this lot; None where it is wrong or has more.

    The rows are counted on the way, as a thing in which one lot stands in many
    places may have more rows than can ever be walked.
    """
    if deep > MOST_DEEP or not isinstance(lot, tuple) or len(lot) > MOST_IN_LOT:
        return None
    for row in lot:
        if left == 0 or not is_shaped(row) or not is_right_ahead(row, names, counts, params):
            return None
        left -= 1
        for inner in lots_of(row):
            left = rows_left(inner, deep + 1, left, names, counts, params)
            if left is None:
                return None
    return left


def is_program(thing):
    if not is_tuple_of(thing, 2):
        return False
    names, deeds = thing
    if not are_names(names) or not are_heads(deeds):
        return False
    counts = {deed: len(params) for deed, params, rows in deeds}
    left = MOST_ROWS
    for deed, params, rows in deeds:
        left = rows_left(rows, 1, left, names, counts, params)
        if left is None:
            return False
    return True


def paths_in(lot, ahead):
    """The rows in a lot in order, those in them too, each as (path, row)."""
    found = []
    for number, row in enumerate(lot):
        path = ahead + (number,)
        found.append((path, row))
        for at, inner in enumerate(lots_of(row)):
            found.extend(paths_in(inner, path + (at,)))
    return found


def places_of(program):
    """The rows of a program by their numbers, each as (deed, path, row)."""
    found = []
    for deed, (name, params, rows) in enumerate(program[1]):
        found.extend([(deed, path, row) for path, row in paths_in(rows, ())])
    return found


def rows_of(program):
    return tuple([(deed, row) for deed, path, row in places_of(program)])


def deed_numbers(program):
    return {deed[0]: number for number, deed in enumerate(program[1])}


def calls_in(program, rows):
    """For each deed the rising tuple of the deeds that stand in those of its calls that are among the (deed, row)."""
    numbers = deed_numbers(program)
    called = [[] for deed in program[1]]
    for deed, row in rows:
        if row[0] == "call":
            called[deed].append(numbers[row[1]])
    return tuple([tuple(sorted(set(some))) for some in called])


def calls_of(program):
    return calls_in(program, rows_of(program))


def come_to(calls, deed):
    """The deeds to which a deed comes by one call or more."""
    found = []
    ahead = list(calls[deed])
    while ahead:
        other = ahead.pop()
        if other not in found:
            found.append(other)
            ahead.extend(calls[other])
    return found


def comes_to_itself(program):
    calls = calls_of(program)
    return any([deed in come_to(calls, deed) for deed in range(len(calls))])
