"""Scenes: where the hands of a town stand, what they hold, and what they wait for."""

from neverstuck.programs import deed_numbers, locks_of, lots_of, places_of
from neverstuck.terms import value_of


def rows_in(program, deed):
    return program[1][deed][2]


def numbers_in(program, frame):
    """The numbers of a frame by its deed's params."""
    deed, numbers, path = frame
    return dict(zip(program[1][deed][1], numbers))


def lot_on(rows, path):
    """The lot in which a path of a deed's rows ends."""
    lot = rows
    for at in range(1, len(path), 2):
        lot = lots_of(lot[path[at - 1]])[path[at]]
    return lot


def row_on(rows, path):
    """The row that a path tells, or None where it tells an end."""
    lot = lot_on(rows, path)
    return lot[path[-1]] if path[-1] < len(lot) else None


def row_here(program, frame):
    deed, numbers, path = frame
    return row_on(rows_in(program, deed), path)


def row_stood_at(program, scene, hand):
    """The row at which a hand stands, or None where it stands at an end or is done."""
    frames = scene[hand][0]
    return row_here(program, frames[-1]) if frames else None


def behind(path):
    return path[:-1] + (path[-1] + 1,)


def stands_at_end(row, lot):
    """Whether one stands still at the end of this lot of a row: where something is held in it."""
    return row[0] in ("within", "all") or (row[0] == "ask" and lot == 0)


def path_stood(rows, path):
    """Where one stands who comes to a path of a deed's rows; None behind the end of them all."""
    while row_on(rows, path) is None:
        if len(path) == 1:
            return None
        around = path[:-2]
        row = row_on(rows, around)
        if stands_at_end(row, path[-2]):
            return path
        path = around if row[0] == "again" else behind(around)
    return path


def frames_stood(program, frames):
    """The frames as they stand once the last one has come to its path, out of calls too."""
    left = list(frames)
    while left:
        deed, numbers, path = left.pop()
        path = path_stood(rows_in(program, deed), path)
        if path is not None:
            left.append((deed, numbers, path))
            break
        if left:
            deed, numbers, path = left.pop()
            left.append((deed, numbers, behind(path)))
    return tuple(left)


def begun(program, town):
    numbers_of = deed_numbers(program)
    scene = []
    for deed, numbers in town:
        frame = (numbers_of[deed], numbers, (0,))
        scene.append((frames_stood(program, (frame,)), ()))
    return tuple(scene)


def held_by(scene, lock):
    for hand, (frames, held) in enumerate(scene):
        if any([lock in block for block in held]):
            return hand
    return None


def row_at(program, scene, hand):
    frames = scene[hand][0]
    if not frames:
        return None
    deed, numbers, path = frames[-1]
    if row_here(program, frames[-1]) is None:
        path = path[:-2]
    places = [(other, along) for other, along, row in places_of(program)]
    return places.index((deed, path))


def locks_told(program, frame):
    """The rising tuple of the locks that the row of a frame tells: a within, an all or an ask."""
    locks = locks_of(row_here(program, frame))
    numbers = numbers_in(program, frame)
    return tuple(sorted({(name, value_of(term, numbers)) for name, term in locks}))


def waits(program, scene, hand):
    row = row_stood_at(program, scene, hand)
    if row is None or row[0] not in ("within", "all"):
        return ()
    return tuple([lock for lock in locks_told(program, scene[hand][0][-1]) if held_by(scene, lock) is not None])
