"""What the text alone tells: what is known at rows, and which names are taken while which are held."""

from neverstuck.facts import fact_of, is_less, round_in
from neverstuck.programs import calls_in, come_to, deed_numbers, locks_of, places_of
from neverstuck.scenes import row_on, rows_in, stands_at_end


def rows_around(rows, path):
    """The rows in which that of a path stands, the outermost first, each with the lot in which it does."""
    return [(row_on(rows, path[:at]), path[at]) for at in range(1, len(path), 2)]


def known_in_lot(row, lot):
    """What is known by standing in this lot of a row: (one, other, more), that one and more is no more than other."""
    if row[0] != "by":
        return []
    one, other = row[1], row[2]
    if lot == 0:
        return [(one, other, 1)]
    if lot == 1:
        return [(one, other, 0), (other, one, 0)]
    return [(other, one, 1)]


def known_on(rows, path):
    """The rising tuple of the facts known at the row of a path; None where it is dead."""
    facts = []
    for row, lot in rows_around(rows, path):
        for one, other, more in known_in_lot(row, lot):
            if one[0] != other[0]:
                facts.append(fact_of(one, other, more))
            elif not is_less((), one, other, more):
                return None
    return None if round_in(facts) is not None else tuple(sorted(set(facts)))


def known_at(program, number):
    deed, path, row = places_of(program)[number]
    return known_on(rows_in(program, deed), path)


def locks_held(rows, path):
    """The locks held around the row of a path, as rows tell them."""
    return [lock for row, lot in rows_around(rows, path) if stands_at_end(row, lot) for lock in locks_of(row)]


def living_rows(program):
    """The rows that aren't dead, each as (number, deed, row, facts known there, locks held around it)."""
    found = []
    for number, (deed, path, row) in enumerate(places_of(program)):
        rows = rows_in(program, deed)
        facts = known_on(rows, path)
        if facts is not None:
            found.append((number, deed, row, facts, locks_held(rows, path)))
    return found


def locks_waited_for(row):
    """The locks for which one waits at a row, if need be."""
    return locks_of(row) if row[0] in ("within", "all") else ()


def names_taken(program, living):
    """For each deed the names that it takes, by its own living rows and by the deeds to which living calls come."""
    own = [[] for deed in program[1]]
    for number, deed, row, facts, held in living:
        own[deed].extend([name for name, term in locks_waited_for(row)])
    calls = calls_in(program, [(deed, row) for number, deed, row, facts, held in living])
    return [sorted({name for other in [deed] + come_to(calls, deed) for name in own[other]})
            for deed in range(len(own))]


def pairs_by(program, living):
    """The rising tuple of the pairs that living rows make."""
    taken = names_taken(program, living)
    numbers = deed_numbers(program)
    found = []
    for number, deed, row, facts, held in living:
        names = [name for name, term in locks_waited_for(row)]
        if row[0] == "call":
            names = taken[numbers[row[1]]]
        found.extend([(number, one, other) for one, term in held for other in names])
    return tuple(sorted(set(found)))


def pairs(program):
    return pairs_by(program, living_rows(program))
