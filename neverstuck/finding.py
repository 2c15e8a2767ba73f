"""Finding papers from the text alone."""

from neverstuck.bounding import bounds_by, weighed
from neverstuck.pairs import living_rows, names_taken, pairs_by
from neverstuck.papers import SIDES


def layers_by(names, links):
    """The least layers of names that rise along links (held name, taken name); None where a ring is in them."""
    layers = {name: 0 for name in names}
    # Without a ring no layer rises as often as there are names.
    for turn in range(len(names)):
        rising = [(held, taken) for held, taken in links if layers[taken] <= layers[held]]
        if not rising:
            return layers
        for held, taken in rising:
            layers[taken] = max(layers[taken], layers[held] + 1)
    return None


def side_and_bounds(program, rows, name, takers):
    for side in SIDES:
        bounds = bounds_by(program, rows, name, side, takers)
        if bounds is not None:
            return (side, bounds)
    return None


def paper_by(program, rows):
    """A paper by the weighed rows of a program; None where there is none."""
    names = program[0]
    links = [(held, taken) for number, held, taken in pairs_by(program, rows) if held != taken]
    layers = layers_by(names, links)
    if layers is None:
        return None
    taken = names_taken(program, rows)
    ranks = []
    takes = [() for deed in program[1]]
    for name in names:
        found = side_and_bounds(program, rows, name, [deed for deed in range(len(takes)) if name in taken[deed]])
        if found is None:
            return None
        side, bounds = found
        ranks.append((layers[name], side))
        for deed, bound in bounds.items():
            takes[deed] += ((name, bound),)
    return (tuple(ranks), tuple(takes))


def paper_for(program):
    return paper_by(program, weighed(program, living_rows(program)))
