"""What several tests share: things of any kind, and programs, facts and weavings made at random."""

import random

from neverstuck.papers import faults
from neverstuck.programs import SHAPES, is_program, rows_of
from neverstuck.scenes import row_at
from neverstuck.steps import moves, stepped

WORDS = ("p", "q", "r")
NAMES = ("a", "b", "c")
SAY = ("say", "x")
A = ("a", ("", 0))
B = ("b", ("", 0))


def program_of(*rows, others=()):
    """A program whose first deed, go, has these rows and no params."""
    return (NAMES, (("go", (), tuple(rows)),) + tuple(others))


def go(many=1):
    """A town of so many hands that do go."""
    return (("go", ()),) * many


class Blank:
    """A thing of a kind of its own."""


class Loud:
    """A thing that is the same as anything, so that it slips through looks by == alone."""

    def __eq__(self, other):
        return True

    def __hash__(self):
        return 1


def nested(thing, times, wrap):
    for _ in range(times):
        thing = wrap(thing)
    return thing


def anything():
    """Things of any kind that are no right part of a program, a move or a reason in any place."""
    return [
        None, True, False, b"", b"a", bytearray(b"a"), [], [1], {}, {"a": 1}, set(), {1}, frozenset(),
        object(), Blank(), Loud(), Blank, int, len, lambda: 1, iter(()), range(2), slice(1), ...,
        10 ** 40, -(10 ** 40), -100, "A", "aB", "nineletts", "a b", "a1", " a", "a\n", "\u00e4", "\u0430", "\ud800",
        "a" * 10000, (None,), ((),), ("say", "x", "x"), ("nothing", ()), ({},), (True, 1), ("p", True), (Loud(),),
        (Loud(), Loud()), (Loud(), Loud(), Loud()), tuple([0] * 5000),
        nested((), 58, lambda x: (x,)), nested((), 58, lambda x: [x]), nested((), 58, lambda x: {"x": x}),
    ]


def places(thing, path=()):
    """Each place in nested tuples, as the path of places to it."""
    found = [path]
    if isinstance(thing, tuple):
        for at, inner in enumerate(thing):
            found.extend(places(inner, path + (at,)))
    return found


def at_place(thing, path):
    for at in path:
        thing = thing[at]
    return thing


def replaced(thing, path, other):
    if not path:
        return other
    at = path[0]
    return thing[:at] + (replaced(thing[at], path[1:], other),) + thing[at + 1:]


def of_other_kinds(thing):
    """The thing with one tuple a list, or one 0 or 1 a truth: the same to ==, or nearly, but no such thing."""
    found = []
    for path in places(thing):
        part = at_place(thing, path)
        if isinstance(part, tuple):
            found.append(replaced(thing, path, list(part)))
        elif part in (0, 1):
            found.append(replaced(thing, path, bool(part)))
    return found


def is_quiet(program, scene, hand):
    number = row_at(program, scene, hand)
    return number is not None and rows_of(program)[number][1][0] in ("say", "call", "by", "either", "again")


def rests(program, scene):
    return not any(is_quiet(program, scene, hand) for hand in range(len(scene)))


def scenes_from(program, scene, limit, quiet_alone=False):
    """All scenes to which moves lead, in no told order; None where there are more than the limit."""
    seen, ahead = {scene}, [scene]
    while ahead:
        here = ahead.pop()
        for move in moves(program, here):
            if quiet_alone and not is_quiet(program, here, move[0]):
                continue
            there, _ = stepped(program, here, move)
            if there not in seen:
                seen.add(there)
                ahead.append(there)
        if len(seen) > limit:
            return None
    return seen


def random_term(chance, params):
    word = chance.choice(("",) + params)
    return (word, chance.randint(-2, 2))


def random_lock(chance, params):
    return (chance.choice(NAMES), random_term(chance, params))


def random_row(chance, heads, params, deep):
    sorts = ["say", "call", "within", "within", "all", "ask", "by", "either", "again"]
    sort = chance.choice(sorts if deep < 5 else sorts[:2])

    def lot():
        return random_lot(chance, heads, params, deep + 1)

    if sort == "say":
        return ("say", chance.choice(("x", "y")))
    if sort == "call":
        deed, others = chance.choice(heads)
        return ("call", deed, tuple(random_term(chance, params) for _ in others))
    if sort == "all":
        locks = []
        while len(locks) < chance.randint(2, 3):
            lock = random_lock(chance, params)
            if lock not in locks:
                locks.append(lock)
        return ("all", tuple(locks), lot())
    if sort == "within":
        return ("within", random_lock(chance, params), lot())
    if sort == "ask":
        return ("ask", random_lock(chance, params), lot(), lot())
    if sort == "by":
        return ("by", random_term(chance, params), random_term(chance, params), lot(), lot(), lot())
    if sort == "either":
        return ("either", lot(), lot())
    return ("again", lot())


def random_lot(chance, heads, params, deep):
    most = (4, 2, 2, 1, 1)[deep - 1]
    return tuple(random_row(chance, heads, params, deep) for _ in range(chance.randint(0, most)))


def random_program(chance):
    heads = [(deed, WORDS[:chance.randint(0, 2)]) for deed in ("go", "do", "be")[:chance.randint(1, 3)]]
    return (NAMES, tuple((deed, params, random_lot(chance, heads, params, 1)) for deed, params in heads))


def crowded_row(chance, deep):
    sort = chance.choice(("say", "within", "within", "within", "all", "ask", "either", "again", "call"))

    def lot():
        return crowded_lot(chance, deep + 1)

    one, other = chance.sample([(name, ("", 0)) for name in NAMES], 2)
    if sort == "within":
        return ("within", one, lot())
    if sort == "all":
        return ("all", (one, other), lot())
    if sort == "ask":
        return ("ask", one, lot(), lot())
    if sort == "either":
        return ("either", lot(), lot())
    if sort == "again":
        return ("again", lot())
    return ("call", "be", ()) if sort == "call" else SAY


def crowded_lot(chance, deep):
    return tuple(crowded_row(chance, deep) for _ in range(chance.randint(0, 2 if deep < 3 else 0)))


def crowded_program(chance):
    """A program of three locks, taken within one another so that hands come to wait for one another."""
    deeds = [(deed, (), (("within", chance.choice(((A, B, ("c", ("", 0))))), crowded_lot(chance, 1)),))
             for deed in ("go", "do", "be")]
    return (NAMES, tuple(deeds))


def random_town(chance, program):
    hands = []
    for _ in range(chance.randint(1, 3)):
        deed, params, _ = chance.choice(program[1])
        hands.append((deed, tuple(chance.randint(-2, 2) for _ in params)))
    return tuple(hands)


def crowded_town(chance, program, most=4):
    """A town of so many hands at most, whose numbers are small, so that they come to want the same locks."""
    hands = []
    for _ in range(chance.randint(1, most)):
        deed, params, _ = chance.choice(program[1])
        hands.append((deed, tuple(chance.randint(-1, 1) for _ in params)))
    return tuple(hands)


def lots_within(lot, path=()):
    """Each lot in a lot, itself too, as the path of places to it."""
    found = [path]
    for at, row in enumerate(lot):
        for place in range(SHAPES[row[0]][0], len(row)):
            found.extend(lots_within(row[place], path + (at, place)))
    return found


def with_row(program, deed, path, row):
    """The program with a row more, ahead of all others in a lot of a deed."""
    return replaced(program, (1, deed, 2) + path, (row,) + at_place(program, (1, deed, 2) + path))


def drawn_paper(chance, names, heads, most):
    """A paper with at most one bound of each name for each deed, its figures from -most to most."""
    takes = []
    for _, params in heads:
        bounds = [() if chance.random() < 0.1 else (chance.choice(params * 2 + ("",)), chance.randint(-most, most))
                  for _ in names]
        takes.append(tuple((name, bound) for name, bound in zip(names, bounds) if chance.random() < 0.9))
    return (tuple((chance.randint(0, 2), chance.choice((1, -1))) for _ in names), tuple(takes))


def fitting_lock(chance, names, paper, deed, params, most):
    """A lock, often just as far as a bound of the paper or a little further."""
    name = chance.choice(names)
    bounds = [bound for other, bound in paper[1][deed] if other == name and bound != ()]
    if not bounds or chance.random() < 0.3:
        return (name, (chance.choice(params + ("",)), chance.randint(-most, most)))
    word, figure = bounds[0]
    figure += paper[0][names.index(name)][1] * chance.choice((0, 0, 1, 1, 2))
    return (name, (word, max(-99, min(99, figure))))


def drawn_row(chance, names, paper, deed, heads, most, callable_ones=None):
    """A row without rows in it that may go by a paper; of the callable ones a deed is called, if they are told."""
    params = heads[deed][1]
    called_ones = heads if callable_ones is None else callable_ones

    def lock():
        return fitting_lock(chance, names, paper, deed, params, most)

    def term():
        small = chance.choice((1, most))
        return (chance.choice(params * 2 + ("",)), chance.randint(-small, small))

    sort = chance.choice(("within",) * 4 + ("call",) * 4 + ("by", "by", "ask", "all", "either", "again", "say"))
    one, other = lock(), lock()
    if sort == "call" and called_ones:
        called, others = chance.choice(called_ones)
        return ("call", called, tuple(term() for _ in others))
    if sort == "all" and one != other:
        return ("all", (one, other), ())
    return {"within": ("within", one, ()), "ask": ("ask", one, (), ()), "by": ("by", term(), term(), (), (), ()),
            "either": ("either", (), ()), "again": ("again", ())}.get(sort, SAY)


def papered_program(chance, tries, most, forward=False):
    """A program with a paper that is taken, built row by row; its figures go from -most to most.

    Forward, deeds call those behind them alone, so that none comes to itself.
    """
    names = NAMES[:chance.choice((1, 1, 2, 3))]
    heads = [(deed, WORDS[:chance.randint(0, 3)]) for deed in ("go", "do", "be", "so")[:chance.randint(1, 4)]]
    paper = drawn_paper(chance, names, heads, most)
    program = (names, tuple((deed, params, ()) for deed, params in heads))
    for _ in range(tries):
        deed = chance.randrange(len(heads))
        path = chance.choice(lots_within(program[1][deed][2]))
        called_ones = heads[deed + 1:] if forward else heads
        other = with_row(program, deed, path, drawn_row(chance, names, paper, deed, heads, most, called_ones))
        if is_program(other) and faults(other, paper) == ():
            program = other
    return program, paper


def random_facts(chance, many, most=4, words=("", "p", "q", "r")):
    return tuple(random_fact(chance, most, words) for _ in range(many))


def random_fact(chance, most=4, words=("", "p", "q", "r")):
    one, other = chance.sample(words, 2)
    return (one, other, chance.randint(-most, most))


def seeded(number):
    return random.Random(number)
