"""Books: all scenes to which the weavings of a town lead, or those of them that rest."""

from neverstuck.resting import long_steps, reached, rests_of
from neverstuck.scenes import begun
from neverstuck.steps import moves

TOO_MANY = ("open", None)


def book(program, town, most):
    found = reached(program, begun(program, town), most, moves)
    return TOO_MANY if found is None else ("all", tuple(found))


def resting_book(program, town, most):
    first = rests_of(program, begun(program, town), most)
    if first is None:
        return TOO_MANY
    found = {scene: True for scene in first}
    ahead = list(first)
    at = 0
    while at < len(ahead) and len(ahead) <= most:
        some = long_steps(program, ahead[at], most)
        if some is None:
            return TOO_MANY
        for scene in some:
            if scene not in found:
                found[scene] = True
                ahead.append(scene)
        at += 1
    return ("all", tuple(sorted(found))) if len(found) <= most else TOO_MANY
