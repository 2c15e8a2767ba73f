"""Rings and chains of names in the text: which is taken while which is held."""

from neverstuck.pairs import pairs
from neverstuck.rings import is_round, ways_on


def first_pairs(program):
    """For each two names of which one is taken while the other is held the first such pair."""
    found = {}
    for number, held, taken in pairs(program):
        found.setdefault((held, taken), (number, held, taken))
    return list(found.values())


def first_round(some):
    """The first by size of the text rings of some pairs, or None."""
    links = [(held, taken, number) for number, held, taken in some]
    ways = [(link,) for link in links]
    while ways:
        found = [tuple([(number, held, taken) for held, taken, number in way]) for way in ways if is_round(way)]
        if found:
            return min(found)
        ways = ways_on(ways, links)
    return None


def text_ring(program):
    return first_round(first_pairs(program))


def chain(program):
    some = [pair for pair in first_pairs(program) if pair[1] != pair[2]]
    if first_round(some) is not None:
        return None
    longest = [()]
    ways = [(pair,) for pair in some]
    # Without a ring no way comes to a name twice, so all of them end.
    while ways:
        longest = ways
        ways = [way + (pair,) for way in ways for pair in some if pair[1] == way[-1][2]]
    return min(longest)
