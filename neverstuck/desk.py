"""A desk, at which a program is asked and woven line by line."""

from neverstuck.errors import NoLine, NoText
from neverstuck.figures import read_count, read_number, show_number
from neverstuck.finding import paper_for
from neverstuck.mending import mends
from neverstuck.pairs import pairs
from neverstuck.programs import comes_to_itself
from neverstuck.rings import rings
from neverstuck.scenes import begun, row_at
from neverstuck.steps import can_be, moves, stepped
from neverstuck.terms import MOST_FIGURE
from neverstuck.texts import read_move, read_program, show_program, show_weaving
from neverstuck.textrings import chain
from neverstuck.verdicts import verdict
from neverstuck.waysout import way_out

MOST_HANDS = 4
MOST_SCENES = 2000
MOST_MENDS = 2


def listed(words):
    return " ".join(words) if words else "-"


def listed_numbers(numbers):
    return listed([show_number(number) for number in numbers])


def listed_moves(weaving):
    return show_weaving(weaving) if weaving else "-"


def the_one_number(words, least, most):
    """The number that a line tells alone, from least to most."""
    number = read_count(words[0]) if len(words) == 1 else None
    if number is None or not least <= number <= most:
        raise NoLine("there is no such number here")
    return number


def read_hand(program, text):
    name, *figures = text.split(".")
    counts = {deed: len(params) for deed, params, rows in program[1]}
    if name not in counts or len(figures) != counts[name]:
        raise NoLine("there is no such deed")
    numbers = [read_number(some) for some in figures]
    if not all([number is not None and -MOST_FIGURE <= number <= MOST_FIGURE for number in numbers]):
        raise NoLine("a hand has no such number")
    return (name, tuple(numbers))


def begin_town(desk, words):
    if not 1 <= len(words) <= MOST_HANDS:
        raise NoLine("a town has no such number of hands")
    town = tuple([read_hand(desk.program, word) for word in words])
    desk.town = town
    desk.scenes = [begun(desk.program, town)]
    desk.events = []
    return "ok"


def read_moves(words):
    try:
        return [read_move(word) for word in words]
    except NoText:
        raise NoLine("no moves are written so") from None


def go_on(desk, words):
    if len(words) == 0:
        raise NoLine("no move is told")
    many = 0
    for move in read_moves(words):
        if not can_be(desk.program, desk.scenes[-1], move):
            break
        scene, event = stepped(desk.program, desk.scenes[-1], move)
        desk.scenes.append(scene)
        desk.events.append(event)
        many += 1
    return show_number(many)


def go_back(desk):
    if not desk.events:
        return "none"
    desk.scenes.pop()
    desk.events.pop()
    return "ok"


def tell_moves(desk):
    return listed_moves(moves(desk.program, desk.scenes[-1]))


def tell_said(desk):
    events = [event for event in desk.events if event is not None]
    return listed([f"{hand}:{word}" for hand, word in events])


def tell_stands(desk, words):
    hand = the_one_number(words, 0, len(desk.town) - 1)
    number = row_at(desk.program, desk.scenes[-1], hand)
    return "-" if number is None else show_number(number)


def tell_holds(desk, words):
    frames, held = desk.scenes[-1][the_one_number(words, 0, len(desk.town) - 1)]
    locks = sorted([lock for block in held for lock in block])
    return listed([f"{name}:{number}" for name, number in locks])


def tell_rings(desk):
    found = rings(desk.program, desk.scenes[-1])
    return listed([".".join([f"{hand}:{name}:{number}" for hand, (name, number) in ring]) for ring in found])


def tell_verdict(desk, words):
    word, shown = verdict(desk.program, desk.town, the_one_number(words, 1, MOST_SCENES))
    if word == "stuck":
        return f"{word} {listed_moves(shown)}"
    if word == "unsure":
        return f"{word} {listed_numbers([number for number, held, taken in shown])}"
    return word


def tell_ranks(desk):
    paper = paper_for(desk.program)
    if paper is None:
        return "none"
    signs = ["+" if side == 1 else "-" for layer, side in paper[0]]
    return listed([f"{name}:{rank[0]}:{sign}" for name, rank, sign in zip(desk.program[0], paper[0], signs)])


def tell_pairs(desk):
    return listed([f"{number}:{held}:{taken}" for number, held, taken in pairs(desk.program)])


def tell_chain(desk):
    found = chain(desk.program)
    if found is None:
        return "none"
    return listed([held for number, held, taken in found[:1]] + [taken for number, held, taken in found])


def tell_mends(desk, words):
    found = mends(desk.program, the_one_number(words, 0, MOST_MENDS))
    return "none" if found is None else listed_numbers(found)


def tell_out(desk):
    if comes_to_itself(desk.program):
        return "comes"
    return listed_moves(way_out(desk.program, desk.scenes[-1]))


def tell_text(desk):
    return show_program(desk.program)


# The lines of one word alone, and those with words behind it.
ALONE = {
    "back": go_back,
    "moves": tell_moves,
    "said": tell_said,
    "rings": tell_rings,
    "ranks": tell_ranks,
    "pairs": tell_pairs,
    "chain": tell_chain,
    "out": tell_out,
    "text": tell_text,
}
WITH_WORDS = {
    "town": begin_town,
    "go": go_on,
    "stands": tell_stands,
    "holds": tell_holds,
    "verdict": tell_verdict,
    "mends": tell_mends,
}
OF_A_TOWN = ("go", "back", "moves", "said", "stands", "holds", "rings", "verdict", "out")


class Desk:
    """A program with a town, if one is begun, its scenes up to now, and what each move between them said."""

    def __init__(self, text):
        self.program = read_program(text)
        self.town = None
        self.scenes = []
        self.events = []

    def say(self, line):
        if not isinstance(line, str):
            raise NoLine("this is no text")
        word, *words = line.split(" ")
        if word in OF_A_TOWN and self.town is None:
            raise NoLine("there is no town yet")
        if word in ALONE and len(words) == 0:
            answer = ALONE[word]
            return answer(self)
        if word in WITH_WORDS:
            reply = WITH_WORDS[word]
            return reply(self, words)
        raise NoLine("there is no such line")
