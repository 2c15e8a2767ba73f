"""Ways out: weavings by which all hands come to be done."""

from neverstuck.steps import can_be, choices_of, scene_behind


def first_move(program, scene):
    """The first one of moves; None where no hand can step."""
    for hand in range(len(scene)):
        choices = choices_of(program, scene, hand)
        if choices:
            return (hand, choices[0])
    return None


def way_out(program, scene):
    weaving = []
    here = scene
    move = first_move(program, here)
    while move is not None:
        weaving.append(move)
        here = scene_behind(program, here, move)
        move = first_move(program, here)
    return tuple(weaving)


def shows_out(program, scene, thing):
    if not isinstance(thing, tuple):
        return False
    here = scene
    for move in thing:
        if not can_be(program, here, move):
            return False
        here = scene_behind(program, here, move)
    return all([len(frames) == 0 for frames, held in here])
