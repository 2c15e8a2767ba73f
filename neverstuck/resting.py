"""Resting: quiet hands, scenes in which there is none, and the long steps between these."""

from neverstuck.scenes import row_stood_at
from neverstuck.steps import moves, scene_behind

QUIET_SORTS = ("say", "call", "by", "either", "again")


def is_quiet(program, scene, hand):
    row = row_stood_at(program, scene, hand)
    return row is not None and row[0] in QUIET_SORTS


def is_resting(program, scene):
    return not any([is_quiet(program, scene, hand) for hand in range(len(scene))])


def quiet_moves(program, scene):
    return tuple([move for move in moves(program, scene) if is_quiet(program, scene, move[0])])


def reached(program, scene, most, able):
    """The scenes to which moves lead from this one, this one the first, in the order in which they are come to.

    able tells the moves that count in a scene. What is told is a dict: for each
    scene (the one from which it was come to, the move), for the first one None.
    None where there are more scenes than most.
    """
    found = {scene: None}
    ahead = [scene]
    at = 0
    # It may have no end, so it stops as soon as there are too many.
    while at < len(ahead) and len(ahead) <= most:
        here = ahead[at]
        for move in able(program, here):
            there = scene_behind(program, here, move)
            if there not in found:
                found[there] = (here, move)
                ahead.append(there)
        at += 1
    return found if len(found) <= most else None


def rests_of(program, scene, most):
    found = reached(program, scene, most, quiet_moves)
    if found is None:
        return None
    return tuple(sorted([there for there in found if is_resting(program, there)]))


def long_steps(program, scene, most):
    found = []
    for move in moves(program, scene):
        some = rests_of(program, scene_behind(program, scene, move), most)
        if some is None:
            return None
        found.extend(some)
    return tuple(sorted(set(found)))
