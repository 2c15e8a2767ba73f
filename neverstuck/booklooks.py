"""A look at books and at ways to stuck scenes, whoever made them."""

from neverstuck.errors import NoStep
from neverstuck.scenes import begun
from neverstuck.steps import moves, scene_behind, walked
from neverstuck.stuckways import is_stuck
from neverstuck.terms import is_name_and_number, is_tuple_of, is_whole


def are_whole(thing):
    return isinstance(thing, tuple) and all([is_whole(number) for number in thing])


def is_frame(thing):
    return is_tuple_of(thing, 3) and is_whole(thing[0]) and are_whole(thing[1]) and are_whole(thing[2])


def is_block(thing):
    return isinstance(thing, tuple) and all([is_name_and_number(lock) for lock in thing])


def is_hand(thing):
    if not is_tuple_of(thing, 2) or not isinstance(thing[0], tuple) or not isinstance(thing[1], tuple):
        return False
    return all([is_frame(frame) for frame in thing[0]]) and all([is_block(block) for block in thing[1]])


def is_formed_as_scene(thing, many):
    """Whether this is made like a scene of so many hands, so that it may be asked for among scenes."""
    return is_tuple_of(thing, many) and all([is_hand(hand) for hand in thing])


def shows_book(program, town, thing):
    if not isinstance(thing, tuple):
        return False
    met = {begun(program, town): True}
    told = {}
    for scene in thing:
        if not is_formed_as_scene(scene, len(town)) or scene not in met or scene in told:
            return False
        told[scene] = True
        for move in moves(program, scene):
            met[scene_behind(program, scene, move)] = True
    # All told ones are met, so each met one is told where there are as many.
    return len(told) == len(met)


def shows_stuck(program, town, thing):
    if not isinstance(thing, tuple):
        return False
    try:
        scene, events = walked(program, town, thing)
    except NoStep:
        return False
    return is_stuck(program, scene)


def shows_never(program, town, thing):
    return shows_book(program, town, thing) and not any([is_stuck(program, scene) for scene in thing])
