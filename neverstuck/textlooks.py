"""A look at text rings and chains, whoever made them."""

from neverstuck.pairs import pairs
from neverstuck.terms import is_tuple_of, is_whole


def is_formed_as_pair(thing):
    if not is_tuple_of(thing, 3):
        return False
    return is_whole(thing[0]) and isinstance(thing[1], str) and isinstance(thing[2], str)


def are_linked_pairs(program, thing):
    """Whether this is a tuple of pairs, of which each one's taken name is the next one's held one."""
    if not isinstance(thing, tuple) or not all([is_formed_as_pair(pair) for pair in thing]):
        return False
    told = pairs(program)
    if not all([pair in told for pair in thing]):
        return False
    return all([one[2] == other[1] for one, other in zip(thing, thing[1:])])


def shows_text_ring(program, thing):
    if not are_linked_pairs(program, thing) or len(thing) == 0:
        return False
    held = [pair[1] for pair in thing]
    return thing[-1][2] == held[0] and held[0] == min(held) and len(set(held)) == len(held)


def shows_chain(program, thing):
    if not are_linked_pairs(program, thing):
        return False
    names = [pair[1] for pair in thing] + [pair[2] for pair in thing[-1:]]
    return len(set(names)) == len(names)
