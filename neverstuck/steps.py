"""Steps: the moves that can be in a scene, and what comes of them."""

from neverstuck.errors import NoStep
from neverstuck.programs import deed_numbers
from neverstuck.scenes import begun, behind, frames_stood, held_by, locks_told, numbers_in, row_here, waits
from neverstuck.terms import is_tuple_of, is_whole, value_of


def choices_of(program, scene, hand):
    """The choices with which a hand can step now, rising."""
    frames = scene[hand][0]
    if not frames:
        return ()
    row = row_here(program, frames[-1])
    if row is not None and row[0] in ("either", "again"):
        return (0, 1)
    return () if waits(program, scene, hand) else (0,)


def moves(program, scene):
    return tuple([(hand, choice) for hand in range(len(scene)) for choice in choices_of(program, scene, hand)])


def can_be(program, scene, move):
    """Whether this, whatever it is, is a move that can be."""
    if not is_tuple_of(move, 2) or not is_whole(move[0]) or not is_whole(move[1]):
        return False
    hand, choice = move
    return 0 <= hand < len(scene) and choice in choices_of(program, scene, hand)


def frame_called(program, frame):
    """The frame that the call at which this one stands begins."""
    sort, deed, terms = row_here(program, frame)
    numbers = numbers_in(program, frame)
    return (deed_numbers(program)[deed], tuple([value_of(term, numbers) for term in terms]), (0,))


def lot_by_numbers(row, numbers):
    one, other = value_of(row[1], numbers), value_of(row[2], numbers)
    if one < other:
        return 0
    return 1 if one == other else 2


def lot_done(program, scene, frame, choice):
    """The lot of its row that a frame comes into by a step; None where it goes on behind the row."""
    row = row_here(program, frame)
    sort = row[0]
    if sort == "by":
        return lot_by_numbers(row, numbers_in(program, frame))
    if sort == "either":
        return choice
    if sort == "again":
        return 0 if choice == 1 else None
    if sort == "ask":
        lock = locks_told(program, frame)[0]
        return 0 if held_by(scene, lock) is None else 1
    return 0 if sort in ("within", "all") else None


def takes(sort, lot):
    """Whether locks are taken by coming into this lot of such a row."""
    return sort in ("within", "all", "ask") and lot == 0


def gone_on(program, scene, hand, choice):
    """What a hand's frames, not yet come to stand, and its blocks are behind its step."""
    frames, held = scene[hand]
    deed, numbers, path = frames[-1]
    row = row_here(program, frames[-1])
    if row is None:
        return (frames[:-1] + ((deed, numbers, behind(path[:-2])),), held[:-1])
    if row[0] == "call":
        return (frames + (frame_called(program, frames[-1]),), held)
    lot = lot_done(program, scene, frames[-1], choice)
    path = behind(path) if lot is None else path + (lot, 0)
    if takes(row[0], lot):
        held = held + (locks_told(program, frames[-1]),)
    return (frames[:-1] + ((deed, numbers, path),), held)


def event_of(program, scene, hand):
    """What the next step of a hand says, or None."""
    row = row_here(program, scene[hand][0][-1])
    return (hand, row[1]) if row is not None and row[0] == "say" else None


def scene_behind(program, scene, move):
    hand, choice = move
    frames, held = gone_on(program, scene, hand, choice)
    return scene[:hand] + ((frames_stood(program, frames), held),) + scene[hand + 1:]


def stepped(program, scene, move):
    if not can_be(program, scene, move):
        raise NoStep(0)
    return (scene_behind(program, scene, move), event_of(program, scene, move[0]))


def walked(program, town, weaving):
    scene = begun(program, town)
    events = []
    for place, move in enumerate(weaving):
        if not can_be(program, scene, move):
            raise NoStep(place)
        event = event_of(program, scene, move[0])
        if event is not None:
            events.append(event)
        scene = scene_behind(program, scene, move)
    return (scene, tuple(events))
