"""Hands that are lost: not done, and never to step again."""

from neverstuck.resting import reached
from neverstuck.steps import moves


def lost(program, scene, most):
    found = reached(program, scene, most, moves)
    if found is None:
        return None
    stepping = {hand: True for there in found for hand, choice in moves(program, there)}
    return tuple([hand for hand, (frames, held) in enumerate(scene) if frames and hand not in stepping])
