"""Rings of hands, each of which waits for a lock that the next one holds."""

from neverstuck.scenes import held_by, waits
from neverstuck.terms import is_name_and_number, is_tuple_of, is_whole


def is_round(way):
    return way[-1][1] == way[0][0]


def ways_on(ways, links):
    """Each way with each link that may follow, where links are (from, to, ..).

    No way comes from one place twice, and the first one is the least, so that a
    round is come to from one of its places alone.
    """
    longer = []
    for way in ways:
        first, last = way[0][0], way[-1][1]
        if last > first and last not in [link[0] for link in way]:
            longer.extend([way + (link,) for link in links if link[0] == last])
    return longer


def wait_links(program, scene):
    """Who waits for whom, as (hand, the hand that holds the lock, lock)."""
    return [(hand, held_by(scene, lock), lock)
            for hand in range(len(scene)) for lock in waits(program, scene, hand)]


def rings(program, scene):
    links = wait_links(program, scene)
    found = []
    ways = [(link,) for link in links]
    while ways:
        found.extend([tuple([(hand, lock) for hand, holder, lock in way]) for way in ways if is_round(way)])
        ways = ways_on(ways, links)
    return tuple(sorted(found))


def is_hand_and_lock(thing, many):
    """Whether this is one of so many hands with a lock as hands hold it."""
    if not is_tuple_of(thing, 2) or not is_whole(thing[0]) or not is_name_and_number(thing[1]):
        return False
    return 0 <= thing[0] < many


def shows_ring(program, scene, thing):
    if not isinstance(thing, tuple) or len(thing) == 0:
        return False
    if not all([is_hand_and_lock(part, len(scene)) for part in thing]):
        return False
    hands = [hand for hand, lock in thing]
    if len(set(hands)) != len(hands) or hands[0] != min(hands):
        return False
    if not all([lock in waits(program, scene, hand) for hand, lock in thing]):
        return False
    return [held_by(scene, lock) for hand, lock in thing] == hands[1:] + hands[:1]
