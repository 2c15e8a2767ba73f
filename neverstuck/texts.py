"""Programs and weavings as texts: written, and read as they were."""

from neverstuck.errors import NoText
from neverstuck.figures import read_count, read_number, show_number
from neverstuck.programs import MOST_DEEP, SHAPES, is_program, locks_of, lots_of
from neverstuck.terms import LETTERS

# How many words stand behind the first one of a row, where that is the same for all of its sort.
WORDS_BEHIND = {"say": 1, "within": 1, "ask": 1, "by": 2, "either": 0, "again": 0}


def show_term(term):
    word, figure = term
    if word == "":
        return show_number(figure)
    if figure == 0:
        return word
    return word + ("+" if figure > 0 else "") + show_number(figure)


def show_lock(lock):
    name, term = lock
    return f"{name}:{show_term(term)}"


def words_behind(row):
    """What is written behind the first word of a row."""
    if row[0] == "say":
        return [row[1]]
    if row[0] == "call":
        return [row[1]] + [show_term(term) for term in row[2]]
    if row[0] == "by":
        return [show_term(row[1]), show_term(row[2])]
    return [show_lock(lock) for lock in locks_of(row)]


def lines_of(lot):
    lines = []
    for row in lot:
        lines.append(" ".join([row[0]] + words_behind(row)))
        lots = lots_of(row)
        for many, inner in enumerate(lots, start=1):
            lines.extend(lines_of(inner))
            lines.append("end" if many == len(lots) else "or")
    return lines


def show_program(program):
    names, deeds = program
    lines = [" ".join(("locks",) + names)]
    for deed, params, rows in deeds:
        lines.append(" ".join(("deed", deed) + params))
        lines.extend(lines_of(rows))
        lines.append("end")
    return "\n".join(lines)


def read_figure(word, rest):
    """The figure of a term that is written as a word and such a rest; None where none is."""
    if word == "":
        return read_number(rest)
    if rest == "":
        return 0
    if rest[0] == "-":
        return read_number(rest)
    figure = read_count(rest[1:]) if rest[0] == "+" else None
    return None if figure == 0 else figure


def read_term(text):
    many = 0
    while many < len(text) and text[many] in LETTERS:
        many += 1
    word = text[:many]
    figure = read_figure(word, text[many:])
    if figure is None:
        raise NoText("no term is written so")
    return (word, figure)


def read_lock(text):
    name, colon, term = text.partition(":")
    return (name, read_term(term))


def read_row(words):
    """A row of these words, without its lots; whether it is right is looked at in the whole program."""
    sort, *rest = words
    if sort == "all":
        return (sort, tuple([read_lock(word) for word in rest]))
    if sort == "call" and len(rest) > 0:
        return (sort, rest[0], tuple([read_term(word) for word in rest[1:]]))
    if sort not in WORDS_BEHIND or len(rest) != WORDS_BEHIND[sort]:
        raise NoText("no row is written so")
    if sort in ("within", "ask"):
        return (sort, read_lock(rest[0]))
    if sort == "by":
        return (sort, read_term(rest[0]), read_term(rest[1]))
    return tuple(words)


class Opened:
    """A row, a deed or a program whose end isn't read yet: what stands ahead of its lots, and these up to now."""

    def __init__(self, ahead, many):
        self.ahead = ahead
        self.many = many
        self.lots = [[]]

    def put(self, thing):
        self.lots[-1].append(thing)

    def is_last_lot(self):
        return len(self.lots) == self.many

    def whole(self):
        return self.ahead + tuple([tuple(lot) for lot in self.lots])


def open_deed(opened, words):
    if words[0] != "deed" or len(words) < 2:
        raise NoText("no deed is written so")
    opened.append(Opened((words[1], tuple(words[2:])), 1))


def open_row(opened, words):
    row = read_row(words)
    lots = SHAPES[row[0]][1]
    if lots == 0:
        opened[-1].put(row)
    elif len(opened) > MOST_DEEP:
        raise NoText("a lot stands too deep")
    else:
        opened.append(Opened(row, lots))


def close_last(opened):
    if len(opened) == 1 or not opened[-1].is_last_lot():
        raise NoText("there is nothing to end")
    last = opened.pop()
    opened[-1].put(last.whole())


def read_line(opened, line):
    """Take in the next line, where these are opened by now: the program, a deed in it, and rows in that."""
    if line == "end":
        close_last(opened)
    elif line == "or":
        if opened[-1].is_last_lot():
            raise NoText("there is no other lot")
        opened[-1].lots.append([])
    elif len(opened) == 1:
        open_deed(opened, line.split(" "))
    else:
        open_row(opened, line.split(" "))


def read_program(text):
    if not isinstance(text, str):
        raise NoText("this is no text")
    first, *lines = text.split("\n")
    word, *names = first.split(" ")
    if word != "locks":
        raise NoText("no locks are told")
    opened = [Opened((tuple(names),), 1)]
    for line in lines:
        read_line(opened, line)
    program = opened[0].whole()
    if len(opened) > 1 or not is_program(program):
        raise NoText("this is no program")
    return program


def show_weaving(weaving):
    return " ".join([f"{show_number(hand)}.{show_number(choice)}" for hand, choice in weaving])


def read_move(text):
    hand, point, choice = text.partition(".")
    move = (read_count(hand), read_count(choice))
    if None in move:
        raise NoText("no move is written so")
    return move


def read_weaving(text):
    if not isinstance(text, str):
        raise NoText("this is no text")
    return tuple([read_move(word) for word in text.split(" ")]) if text != "" else ()
