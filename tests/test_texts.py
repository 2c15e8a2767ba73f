"""Point 31: programs and weavings as texts."""

import copy
import unittest

from neverstuck.errors import NoText
from neverstuck.programs import is_program
from neverstuck.texts import read_program, read_weaving, show_program, show_weaving
from tests.helpers import (A, SAY, Loud, anything, crowded_program, nested, papered_program, program_of, random_program,
                           seeded)

P, Q = ("p", 0), ("q", 0)

EVERY = (("a", "fork"), (
    ("go", ("p", "q"), (
        ("say", "yum"),
        ("call", "go", (("q", 1), ("", -3))),
        ("call", "do", ()),
        ("within", ("fork", ("p", 0)), (SAY,)),
        ("all", (("a", ("", 0)), ("fork", ("p", -99)), ("fork", ("", 99))), ()),
        ("ask", ("a", ("q", 99)), (SAY,), (SAY, SAY)),
        ("by", P, ("", 7), (SAY,), (), (("again", ()),)),
        ("either", (), (("within", ("a", P), ()),)),
        ("again", (("either", (), ()),)),
    )),
    ("do", (), ()),
))

EVERY_TEXT = """locks a fork
deed go p q
say yum
call go q+1 -3
call do
within fork:p
say x
end
all a:0 fork:p-99 fork:99
end
ask a:q+99
say x
or
say x
say x
end
by p 7
say x
or
or
again
end
end
either
or
within a:p
end
end
again
either
or
end
end
end
deed do
end"""


def text_of(*rows, head="deed go p q"):
    return "\n".join(("locks a b", head) + rows + ("end",))


class TestPrograms(unittest.TestCase):
    def check(self, program, text):
        self.assertEqual(show_program(program), text)
        self.assertEqual(read_program(text), program)

    def refused(self, thing):
        with self.assertRaises(NoText) as caught:
            read_program(thing)
        self.assertIs(type(caught.exception), NoText)

    def row(self, row, *lines):
        self.check((("a", "b"), (("go", ("p", "q"), (row,)),)), text_of(*lines))

    def test_every_sort_of_row(self):
        self.check(EVERY, EVERY_TEXT)

    def test_the_least_program(self):
        self.check((("a",), (("go", (), ()),)), "locks a\ndeed go\nend")

    def test_names_deeds_and_params(self):
        names = ("a", "b", "c", "locks", "say", "z")
        deeds = tuple((deed, ("end", "or", "deed"), ()) for deed in ("deed", "end", "or", "go", "abcdefgh", "call"))
        text = "locks a b c locks say z\n" + "\n".join(f"deed {deed} end or deed\nend" for deed, _, _ in deeds)
        self.check((names, deeds), text)

    def test_words_that_begin_lines_too(self):
        self.row(("say", "end"), "say end")
        self.row(("say", "or"), "say or")
        self.check((("a",), (("or", (), (("call", "or", ()), ("again", (("say", "deed"),)))),)),
                   "locks a\ndeed or\ncall or\nagain\nsay deed\nend\nend")

    def test_terms(self):
        for term, text in ((("p", 0), "p"), (("p", 1), "p+1"), (("p", -1), "p-1"), (("p", 99), "p+99"),
                           (("p", -99), "p-99"), (("p", 10), "p+10"), (("", 0), "0"), (("", 1), "1"), (("", -1), "-1"),
                           (("", 99), "99"), (("", -99), "-99"), (("", -3), "-3"), (("", 10), "10")):
            self.row(("within", ("a", term), ()), f"within a:{text}", "end")
            self.row(("ask", ("b", term), (), ()), f"ask b:{text}", "or", "end")
            self.row(("all", (("b", term), ("a", Q)), ()), f"all b:{text} a:q", "end")
            self.row(("call", "go", (term, Q)), f"call go {text} q")
            self.row(("by", Q, term, (), (), ()), f"by q {text}", "or", "or", "end")

    def test_terms_that_are_none(self):
        for text in ("", "p+0", "p-0", "+0", "-0", "+1", "+p", "-p", "p+01", "p-01", "01", "00", "-01", "p1", "p 1",
                     "p+", "p-", "-", "+", "p++1", "p+-1", "p-+1", "p--1", "--1", "p+1+1", "1p", "p+q", "p+100",
                     "p-100", "100", "-100", "r", "P", "p.1", "p:1", "1.0", "1e1", "1_0", "p+1_0", "\u0661",
                     "p+\u0661", "\u00b2", "p+\u00b2", "\uff11", "\uff50", "0x1", "p+ 1", "9" * 5000,
                     "-" + "9" * 5000, "p+" + "9" * 5000, "p\t", "1\t", "p\r"):
            self.refused(text_of(f"within a:{text}", "end"))
            self.refused(text_of(f"all b:q a:{text}", "end"))
            self.refused(text_of(f"ask a:{text}", "or", "end"))
            self.refused(text_of(f"call go q {text}"))
            self.refused(text_of(f"by {text} q", "or", "or", "end"))

    def test_locks_that_are_none(self):
        for text in ("a", "a:", ":p", ":", "c:p", "A:p", "a::p", "a:p:", "a:p:1", "a.p", "a;p", "ab:p", " a:p", "a :p",
                     "a: p", "p:a", "p"):
            self.refused(text_of(f"within {text}", "end"))
            self.refused(text_of(f"all {text} b:p", "end"))
            self.refused(text_of(f"ask {text}", "or", "end"))

    def test_blanks_and_line_feeds(self):
        self.assertEqual(read_program(EVERY_TEXT), EVERY)
        for at, sign in enumerate(EVERY_TEXT):
            if sign in " \n":
                for other in ("  ", "\n\n", " \n", "\n ", "\t", "\r\n", "\r", "\x0b", "\x0c", "\u00a0", "\u2028", "",
                              "\n" if sign == " " else " "):
                    self.refused(EVERY_TEXT[:at] + other + EVERY_TEXT[at + 1:])
        for text in (" ", "\n", "\t", "\r", "\x00", "\ufeff", "#", "end", "\nend", "\nsay x"):
            self.refused(EVERY_TEXT + text)
            self.refused(text + EVERY_TEXT)

    def test_each_line_left_out_or_told_twice(self):
        lines = EVERY_TEXT.split("\n")
        for at, line in enumerate(lines):
            fewer, more = "\n".join(lines[:at] + lines[at + 1:]), "\n".join(lines[:at] + [line] + lines[at:])
            for text in (fewer, more):
                # A row that stands by itself may be left out or told twice, and what stands beside is the same.
                if line.startswith(("say", "call")):
                    self.assertEqual(show_program(read_program(text)), text)
                elif line != "end" or lines[at - 1] != "deed do":
                    self.refused(text)

    def test_each_line_cut_short_or_with_a_word_more(self):
        lines = EVERY_TEXT.split("\n")
        for at, line in enumerate(lines):
            for other in (line + " x", line + " ", " " + line, "x " + line, line.upper(), line.title(), line[:-1], ""):
                text = "\n".join(lines[:at] + [other] + lines[at + 1:])
                try:
                    told = read_program(text)
                except NoText:
                    continue
                self.assertEqual(show_program(told), text)
                self.assertIs(is_program(told), True)
                self.assertTrue(line.startswith(("locks", "deed", "say", "all", "within", "ask", "by")), (line, other))

    def test_missing_and_extra_ends_and_ors(self):
        self.refused("locks a b\ndeed go")
        self.refused("locks a b\nend")
        self.refused("locks a b\nor")
        self.refused("locks a b")
        for lines in (("end",), ("or",), ("again",), ("again", "or", "end"), ("again", "end", "end"), ("either", "end"),
                      ("either",), ("either", "or"), ("either", "or", "or", "end"), ("by p q", "end"),
                      ("by p q", "or", "end"), ("by p q", "or", "or", "or", "end"), ("ask a:p", "end"),
                      ("ask a:p", "or", "or", "end"), ("within a:p",), ("within a:p", "or", "end"), ("say x", "end"),
                      ("call go p q", "end"), ("all a:p b:p",), ("deed do", "end"), ("locks a",), ("end x",),
                      ("or x",)):
            self.refused(text_of(*lines))

    def test_words_in_the_wrong_place(self):
        for line in ("", "say", "say x y", "x", "SAY x", "say X", "say 1", "say x1", "call", "call go", "call go p",
                     "call go p q p", "call do", "call go p,q", "within", "all", "ask", "by p", "by p q p", "either x",
                     "again x", "within a:p b:p", "ask a:p b:p", "all a:p", "all a:p a:p", "all a:0 a:1 a:2 a:3 a:4"):
            for ends in ((), ("end",), ("or", "end"), ("or", "or", "end")):
                self.refused(text_of(line, *ends))
        for text in ("", "locks", "locks ", "lock a\ndeed go\nend", "a\ndeed go\nend", "deed go\nend",
                     "locks a\ndeed\nend", "locks a\ndeed \nend", "locks a\ngo\nend", "locks a\nsay x\nend",
                     "locks a\nlocks a\ndeed go\nend", "deed go\nend\nlocks a", "locks a\ndeed go\nend\nsay x",
                     "locks\ndeed go\nend", "LOCKS a\ndeed go\nend", "locks a,b\ndeed go\nend",
                     "locks a\ndeed go(p)\nend"):
            self.refused(text)

    def test_what_reads_as_no_program(self):
        for text in ("locks b a\ndeed go\nend", "locks a a\ndeed go\nend", "locks A\ndeed go\nend",
                     "locks a\ndeed go p p\nend", "locks a\ndeed go p q r s\nend",
                     "locks a\ndeed go\nend\ndeed go\nend",
                     "locks a b c d e f g\ndeed go\nend", "locks abcdefghi\ndeed go\nend",
                     "locks a\ndeed go\ncall do\nend", "locks a\ndeed 1\nend",
                     "locks a\n" + "\n".join(f"deed {deed}\nend" for deed in "abcdefg"),
                     text_of(*["say x"] * 13), text_of("again", *["say x"] * 13, "end")):
            self.refused(text)
        self.assertEqual(len(read_program(text_of(*["say x"] * 12))[1][0][2]), 12)
        deeds = [f"deed {deed}\n" + "say x\n" * 12 + "end" for deed in "abcde"]
        self.assertIs(is_program(read_program("locks a\n" + "\n".join(deeds))), True)
        self.refused("locks a\n" + "\n".join(deeds) + "\ndeed f\nsay x\nend")

    def test_however_deep(self):
        for line, ends in (("again", ("end",)), ("either", ("or", "end")), ("within a:p", ("end",)),
                           ("ask a:p", ("or", "end")), ("by p q", ("or", "or", "end"))):
            for many in (1, 4, 5, 6, 50, 100, 1000, 30000):
                text = text_of(*[line] * many, *list(ends) * many)
                if many <= 4:
                    self.assertEqual(show_program(read_program(text)), text)
                else:
                    self.refused(text)
                self.refused(text_of(*[line] * many))
        self.refused("locks a\n" + "deed go\n" * 30000)
        self.refused("again\n" * 30000)

    def test_as_deep_as_may_be(self):
        program = program_of(nested(SAY, 4, lambda row: ("within", A, (row,))))
        self.assertEqual(read_program(show_program(program)), program)

    def test_things_that_are_no_texts(self):
        for thing in anything():
            self.refused(thing)
        for thing in (EVERY, EVERY_TEXT.encode(), [EVERY_TEXT], (EVERY_TEXT,), list(EVERY_TEXT), Loud(), None, 0, True):
            self.refused(thing)

    def test_what_is_written_is_read_as_it_was(self):
        done = 0
        for seed in range(150):
            chance = seeded(seed)
            program = (random_program, crowded_program, lambda x: papered_program(x, 40, 99)[0])[seed % 3](chance)
            if is_program(program):
                self.assertEqual(read_program(show_program(program)), program)
                done += 1
        self.assertGreater(done, 100)

    def test_texts_with_a_slip_are_refused_or_written_so(self):
        """Whatever is read is a program, and is written just so."""
        met = set()
        for seed in range(400):
            chance = seeded(seed)
            program = random_program(chance) if seed % 2 else EVERY
            text = show_program(program)
            at, to = sorted((chance.randint(0, len(text)), chance.randint(0, len(text))))
            slips = (text[:at] + chance.choice(" \n01+-:.pqax") + text[at:], text[:at] + text[at + 1:],
                     text[:at] + chance.choice(" \n01+-:.pqax") + text[at + 1:], text[:at] + text[to:],
                     text[:to] + text[at:])
            for slip in slips:
                try:
                    told = read_program(slip)
                except NoText:
                    met.add("refused")
                    continue
                met.add("read")
                self.assertIs(is_program(told), True)
                self.assertEqual(show_program(told), slip)
        self.assertEqual(met, {"refused", "read"})

    def test_by_names_and_nothing_changed(self):
        kept = copy.deepcopy(EVERY)
        for _ in range(2):
            self.assertEqual(show_program(program=EVERY), EVERY_TEXT)
            self.assertEqual(read_program(text=EVERY_TEXT), EVERY)
        self.assertEqual(EVERY, kept)
        self.assertIs(type(show_program(EVERY)), str)


class TestWeavings(unittest.TestCase):
    def check(self, weaving, text):
        self.assertEqual(show_weaving(weaving), text)
        self.assertEqual(read_weaving(text), weaving)

    def refused(self, thing):
        with self.assertRaises(NoText) as caught:
            read_weaving(thing)
        self.assertIs(type(caught.exception), NoText)

    def test_none_one_and_several(self):
        self.check((), "")
        self.check(((0, 0),), "0.0")
        self.check(((3, 1), (0, 0), (2, 1)), "3.1 0.0 2.1")
        self.check(((0, 0), (10, 1), (0, 20)), "0.0 10.1 0.20")

    def test_numbers_of_many_figures(self):
        self.check(((10 ** 30, 0), (0, 10 ** 30 + 7)), "1" + "0" * 30 + ".0 0.1" + "0" * 29 + "7")
        many = "1" + "0" * 5000
        number = 10 ** 5000
        self.check(((number, 0), (1, number)), f"{many}.0 1.{many}")
        self.assertEqual(read_weaving("98765432109876543210.1"), ((98765432109876543210, 1),))

    def test_slips(self):
        for text in (" ", "0", "0.", ".0", ".", "0.0.0", "0..0", "0,0", "0:0", "00.0", "0.00", "01.0", "0.01", "-1.0",
                     "0.-1", "-0.0", "+0.0", "0.+1", "a.0", "0.a", "0 0", "0. 0", "0 .0", " 0.0", "0.0 ", "0.0  0.0",
                     "0.0\n", "\n", "0.0\n0.0", "0.0\t0.0", "\t", "0.0,0.0", "0.0 x", "x", "-", "0.1_0", "1_0.0",
                     "\u0661.0", "0.\u0661",
                     "\u00b2.0", "\uff10.0", "0x0.0", "1e1.0", "0.0 0", "0.0 .", "0.0\r", "0.0 \n1.0", "()",
                     "((0, 0),)",
                     "0" * 5000 + ".0", "\ud800"):
            self.refused(text)

    def test_things_of_any_kind(self):
        for thing in anything():
            self.refused(thing)
        for thing in ((), ((0, 0),), b"0.0", b"", ["0.0"], ("0.0",), 0, None, True, Loud()):
            self.refused(thing)

    def test_what_is_written_is_read_as_it_was(self):
        for seed in range(100):
            chance = seeded(seed)
            weaving = tuple((chance.randint(0, chance.choice((1, 3, 10 ** 6))), chance.randint(0, 2))
                            for _ in range(chance.randint(0, 30)))
            self.assertEqual(read_weaving(show_weaving(weaving)), weaving)

    def test_by_names(self):
        self.assertEqual(show_weaving(weaving=((0, 1),)), "0.1")
        self.assertEqual(read_weaving(text="0.1"), ((0, 1),))
        self.assertTrue(all(type(number) is int for move in read_weaving("0.1 1.0") for number in move))


if __name__ == "__main__":
    unittest.main()
