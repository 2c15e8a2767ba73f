"""The first way to where nobody can go on."""

from neverstuck.books import TOO_MANY
from neverstuck.resting import reached
from neverstuck.scenes import begun
from neverstuck.steps import moves


def is_stuck(program, scene):
    some_left = any([len(frames) > 0 for frames, held in scene])
    return some_left and not moves(program, scene)


def weaving_to(found, scene):
    """The weaving by which a scene was first come to, of what reached tells."""
    weaving = []
    here = scene
    while found[here] is not None:
        here, move = found[here]
        weaving.append(move)
    return tuple(weaving[::-1])


def stuck_way(program, town, most):
    found = reached(program, begun(program, town), most, moves)
    if found is None:
        return TOO_MANY
    # Scenes come in the order of their first weavings by size, as each goes on by rising moves.
    for scene in found:
        if is_stuck(program, scene):
            return ("way", weaving_to(found, scene))
    return ("never", None)
