"""Papers: ranks of locks with what each deed takes, and a look at them row by row."""

from neverstuck.facts import is_less
from neverstuck.pairs import living_rows, locks_waited_for
from neverstuck.programs import deed_numbers
from neverstuck.terms import is_term, is_tuple_of, is_whole, put_in

MOST_LAYER = 9
SIDES = (1, -1)


def is_rank(thing):
    if not is_tuple_of(thing, 2) or not is_whole(thing[0]) or not is_whole(thing[1]):
        return False
    return 0 <= thing[0] <= MOST_LAYER and thing[1] in SIDES


def is_entry(thing, names, params):
    """Whether this is a name with a bound."""
    if not is_tuple_of(thing, 2) or not isinstance(thing[0], str) or thing[0] not in names:
        return False
    return is_tuple_of(thing[1], 0) or is_term(thing[1], params)


def are_entries(thing, names, params):
    if not isinstance(thing, tuple) or not all([is_entry(entry, names, params) for entry in thing]):
        return False
    return all([one < other for one, other in zip(thing, thing[1:])])


def is_paper(program, thing):
    names, deeds = program
    if not is_tuple_of(thing, 2) or not is_tuple_of(thing[0], len(names)) or not is_tuple_of(thing[1], len(deeds)):
        return False
    ranks, takes = thing
    if not all([is_rank(rank) for rank in ranks]):
        return False
    return all([are_entries(entries, names, params) for entries, (deed, params, rows) in zip(takes, deeds)])


def ranks_by_name(program, paper):
    return dict(zip(program[0], paper[0]))


def is_further(program, paper, one, other):
    ranks = ranks_by_name(program, paper)
    layer, side = ranks[one[0]]
    if layer > ranks[other[0]][0]:
        return True
    return one[0] == other[0] and one[1] * side > other[1] * side


def goes_on(facts, side, one, other, more):
    """Whether it follows that the other term's number is further than the first one's by more, at least."""
    return is_less(facts, one, other, more) if side == 1 else is_less(facts, other, one, more)


def is_above(ranks, facts, entry, held):
    """Whether a lock, or a name of whose number nothing is known, is above a held lock."""
    layer, side = ranks[entry[0]]
    if layer > ranks[held[0]][0]:
        return True
    return entry[0] == held[0] and entry[1] != () and goes_on(facts, side, held[1], entry[1], 1)


def is_told(ranks, facts, entry, entries):
    """Whether entries, those of takes of the deed, tell of a lock, or of a name without a known number."""
    name, term = entry
    bounds = [bound for other, bound in entries if other == name]
    if () in bounds:
        return True
    return term != () and any([goes_on(facts, ranks[name][1], bound, term, 0) for bound in bounds])


def entry_called(entry, terms):
    """An entry of a called deed as it is at the call, its bound put in by terms of the deed's params."""
    name, bound = entry
    return (name, bound if bound == () else put_in(bound, terms))


def entries_at(program, paper, row):
    """What a row takes by a paper: its own locks, or the entries of the deed that it calls."""
    if row[0] != "call":
        return locks_waited_for(row)
    called = deed_numbers(program)[row[1]]
    terms = dict(zip(program[1][called][1], row[2]))
    return [entry_called(entry, terms) for entry in paper[1][called]]


def faults(program, paper):
    ranks = ranks_by_name(program, paper)
    found = []
    for number, deed, row, facts, held in living_rows(program):
        entries = entries_at(program, paper, row)
        if not all([is_above(ranks, facts, entry, lock) for entry in entries for lock in held]):
            found.append((number, "above"))
        if not all([is_told(ranks, facts, entry, paper[1][deed]) for entry in entries]):
            found.append((number, "told"))
    return tuple(found)


def shows_paper(program, thing):
    return is_paper(program, thing) and faults(program, thing) == ()
