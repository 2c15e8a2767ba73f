"""Points 4 to 6: what a program is, its rows, its calls."""

import copy
import unittest

from neverstuck.programs import calls_of, comes_to_itself, is_program, rows_of
from tests.helpers import anything, at_place, places, random_program, replaced, seeded

SAY = ("say", "x")

EACH_SORT = (
    ("a", "b"),
    (
        ("go", ("p", "q"), (
            ("say", "hello"),
            ("call", "do", (("p", 1),)),
            ("within", ("a", ("p", 0)), (SAY, ("say", "y"))),
            ("all", (("a", ("p", 0)), ("a", ("q", 0)), ("b", ("", 3))), (SAY,)),
            ("ask", ("b", ("", -99)), (SAY,), (("say", "z"),)),
            ("by", ("p", 0), ("q", 99), (SAY,), (("say", "u"),), (("say", "v"),)),
            ("either", (SAY,), (("again", (SAY,)),)),
            ("again", ()),
        )),
        ("do", ("p",), ()),
    ),
)


def with_rows(rows, params=("p",), names=("a",)):
    return (names, (("go", params, tuple(rows)),))


def with_names(names):
    return (names, (("go", (), ()),))


def with_deeds(deeds):
    return (("a",), deeds)


def deep_lot(times):
    """A lot in which others stand one in another, so many in all."""
    lot = ()
    for _ in range(times - 1):
        lot = (("again", lot),)
    return lot


class TestIsProgram(unittest.TestCase):
    def right(self, thing):
        self.assertIs(is_program(thing), True, thing)

    def wrong(self, thing):
        self.assertIs(is_program(thing), False)

    def test_each_sort_of_row(self):
        self.right(EACH_SORT)
        for row in EACH_SORT[1][0][2]:
            self.right(replaced(EACH_SORT, (1, 0, 2), (row,)))

    def test_the_least_program(self):
        self.right((("a",), (("a", (), ()),)))

    def test_one_word_for_several_things(self):
        self.right((("say", "within"), (("say", ("say",), (("say", "say"), ("call", "say", (("say", 0),)))),)))

    def test_random_programs(self):
        for number in range(200):
            program = random_program(seeded(number))
            self.assertIs(is_program(thing=program), len(rows_of(program)) <= 60)

    def test_letters_of_a_word(self):
        for word, right in (("a", True), ("abcdefgh", True), ("zzzzzzzz", True), ("", False), ("abcdefghi", False),
                            ("A", False), ("aB", False), ("a1", False), ("a_", False), ("\u00e9", False),
                            ("\u00aa", False), ("a ", False), ("a\n", False)):
            for program in (with_names((word,)), with_deeds(((word, (), ()),)), with_deeds((("go", (word,), ()),)),
                            with_rows((("say", word),))):
                self.assertIs(is_program(program), right, program)

    def test_each_sign_as_a_letter(self):
        for number in range(0x300):
            right = chr(number) in tuple("abcdefghijklmnopqrstuvwxyz")
            for word in (chr(number), "a" + chr(number)):
                self.assertIs(is_program(with_rows((("say", word),))), right, word)

    def test_figures(self):
        for figure, right in ((99, True), (-99, True), (0, True), (100, False), (-100, False), (10 ** 30, False)):
            for word in ("", "p"):
                term = (word, figure)
                for row in (("within", ("a", term), ()), ("ask", ("a", term), (), ()),
                            ("all", (("a", term), ("a", ("p", 50))), ()), ("call", "go", (term,)),
                            ("by", term, ("", 0), (), (), ()), ("by", ("", 0), term, (), (), ())):
                    self.assertIs(is_program(with_rows((row,))), right, row)

    def test_names(self):
        self.wrong(with_names(()))
        self.right(with_names(("a",)))
        self.right(with_names(("a", "b", "c", "d", "e", "f")))
        self.wrong(with_names(("a", "b", "c", "d", "e", "f", "g")))

    def test_names_rise(self):
        self.right(with_names(("a", "aa", "b")))
        self.wrong(with_names(("b", "a")))
        self.wrong(with_names(("a", "c", "b")))
        self.wrong(with_names(("a", "a")))

    def test_deeds(self):
        some = [("d" + letter, (), ()) for letter in "abcdefg"]
        self.wrong(with_deeds(()))
        self.right(with_deeds(tuple(some[:6])))
        self.wrong(with_deeds(tuple(some)))
        self.right(with_deeds((("b", (), ()), ("a", (), ()))))
        self.wrong(with_deeds((("a", (), ()), ("b", (), ()), ("a", ("p",), ()))))

    def test_params(self):
        self.right(with_rows((), ()))
        self.right(with_rows((), ("r", "q", "p")))
        self.wrong(with_rows((), ("p", "q", "r", "s")))
        self.wrong(with_rows((), ("p", "q", "p")))
        self.wrong(with_rows((), ("",)))

    def test_rows_of_a_lot(self):
        for many, right in ((0, True), (12, True), (13, False)):
            lot = (SAY,) * many
            self.assertIs(is_program(with_rows(lot)), right)
            for row in (("within", ("a", ("", 0)), lot), ("ask", ("a", ("", 0)), lot, ()),
                        ("ask", ("a", ("", 0)), (), lot), ("either", lot, ()), ("either", (), lot), ("again", lot),
                        ("all", (("a", ("", 0)), ("a", ("", 1))), lot),
                        ("by", ("", 0), ("", 0), lot, (), ()), ("by", ("", 0), ("", 0), (), lot, ()),
                        ("by", ("", 0), ("", 0), (), (), lot)):
                self.assertIs(is_program(with_rows((row,))), right, row)

    def test_locks_of_an_all(self):
        locks = tuple(("a", ("", figure)) for figure in range(5))
        for many, right in ((0, False), (1, False), (2, True), (3, True), (4, True), (5, False)):
            self.assertIs(is_program(with_rows((("all", locks[:many], ()),))), right)

    def test_unlike_pairs_in_an_all(self):
        self.wrong(with_rows((("all", (("a", ("p", 1)), ("a", ("p", 1))), ()),)))
        self.wrong(with_rows((("all", (("a", ("p", 1)), ("a", ("", 1)), ("a", ("p", 1))), ()),)))
        self.right(with_rows((("all", (("a", ("p", 1)), ("b", ("p", 1))), ()),), names=("a", "b")))
        self.right(with_rows((("all", (("a", ("p", 1)), ("a", ("p", 2)), ("a", ("", 1))), ()),)))

    def test_lots_one_in_another(self):
        self.right(with_rows(deep_lot(5)))
        self.wrong(with_rows(deep_lot(6)))
        self.wrong(with_rows(deep_lot(60)))

    def test_an_empty_lot_too_deep(self):
        rows = deep_lot(4)
        inmost = (0, 1) * 3
        self.right(with_rows(replaced(rows, inmost, (SAY, ("again", (SAY,))))))
        self.wrong(with_rows(replaced(rows, inmost, (SAY, ("again", (SAY, ("again", ())))))))

    def test_each_lot_of_a_row_stands_deeper(self):
        for at in (3, 4, 5):
            row = ("by", ("", 0), ("", 0), (), (), ())
            self.right(with_rows((replaced(row, (at,), deep_lot(4)),)))
            self.wrong(with_rows((replaced(row, (at,), deep_lot(5)),)))

    def test_rows_in_all(self):
        twelve = (SAY,) * 12
        five = (("again", twelve),) * 4 + (SAY,) * 8
        self.assertEqual(len(rows_of(with_rows(five))), 60)
        self.right(with_rows(five))
        self.wrong(with_rows(five + (SAY,)))
        deeds = tuple((deed, (), twelve) for deed in ("a", "b", "c", "d", "e"))
        self.right(with_deeds(deeds))
        self.wrong(with_deeds(deeds + (("f", (), (SAY,)),)))
        self.right(with_deeds(deeds + (("f", (), ()),)))

    def test_more_rows_than_can_be_walked(self):
        lot = ()
        for _ in range(25):
            lot = (("either", lot, lot),) * 12
        self.wrong(with_rows(lot))
        lot = (SAY,) * 12
        for _ in range(4):
            lot = (("by", ("", 0), ("", 0), lot, lot, lot),) * 12
        self.wrong(with_rows(lot))

    def test_a_word_that_is_no_param(self):
        other = ("q", 0)
        for row in (("within", ("a", other), ()), ("ask", ("a", other), (), ()),
                    ("all", (("a", ("p", 0)), ("a", other)), ()), ("call", "go", (other,)),
                    ("by", other, ("", 0), (), (), ()), ("by", ("", 0), other, (), (), ()),
                    ("again", (("within", ("a", other), ()),))):
            self.wrong(with_rows((row,)))

    def test_params_of_its_own_deed_alone(self):
        call = ("call", "do", (("p", 0),))
        self.right(with_deeds((("go", ("p",), (call,)), ("do", ("q",), ()))))
        self.wrong(with_deeds((("go", ("p",), (("call", "do", (("q", 0),)),)), ("do", ("q",), ()))))

    def test_a_lock_of_no_name(self):
        for lock in (("b", ("", 0)), ("", ("", 0)), ("p", ("", 0))):
            self.wrong(with_rows((("within", lock, ()),)))
            self.wrong(with_rows((("ask", lock, (), ()),)))
            self.wrong(with_rows((("all", (lock, ("a", ("", 0))), ()),)))

    def test_calls(self):
        self.right(with_rows((("call", "go", (("p", 0),)),)))
        self.wrong(with_rows((("call", "no", (("p", 0),)),)))
        self.wrong(with_rows((("call", "go", ()),)))
        self.wrong(with_rows((("call", "go", (("p", 0), ("p", 0))),)))
        self.right(with_deeds((("go", (), (("call", "do", (("", 1), ("", 2))),)), ("do", ("p", "q"), ()))))

    def test_things_of_any_kind(self):
        for thing in anything():
            self.wrong(thing)

    def test_things_of_any_kind_in_any_place(self):
        for path in places(EACH_SORT):
            for thing in anything():
                self.wrong(replaced(EACH_SORT, path, thing))

    def test_a_list_where_a_tuple_stands(self):
        for path in places(EACH_SORT):
            thing = at_place(EACH_SORT, path)
            if isinstance(thing, tuple):
                self.wrong(replaced(EACH_SORT, path, list(thing)))

    def test_a_tuple_with_more_or_less(self):
        for path in ((), (1, 0), (1, 0, 2, 0), (1, 0, 2, 1), (1, 0, 2, 2), (1, 0, 2, 2, 1), (1, 0, 2, 2, 1, 1), (1, 0, 2, 3),
                     (1, 0, 2, 4), (1, 0, 2, 5), (1, 0, 2, 6), (1, 0, 2, 7)):
            thing = at_place(EACH_SORT, path)
            for other in (thing + ((),), thing[:-1], ()):
                self.wrong(replaced(EACH_SORT, path, other))

    def test_a_truth_where_a_number_stands(self):
        for path in places(EACH_SORT):
            if at_place(EACH_SORT, path) == 1:
                self.wrong(replaced(EACH_SORT, path, True))
            if at_place(EACH_SORT, path) == 0:
                self.wrong(replaced(EACH_SORT, path, False))


class TestRowsOf(unittest.TestCase):
    def test_order_through_each_sort_of_row(self):
        def lot(*words):
            return tuple(("say", word) for word in words)

        lock = ("a", ("", 0))
        inner = ("either", lot("n"), lot("o"))
        rows = (
            ("by", ("", 0), ("", 1), lot("a", "b"), lot("c"), lot("d")),
            ("within", lock, lot("e")),
            ("all", (lock, ("a", ("", 1))), lot("f", "g")),
            ("ask", lock, lot("h", "i"), lot("j")),
            ("either", lot("k"), lot("l", "m")),
            ("again", (inner,) + lot("p")),
            ("call", "do", ()),
            ("say", "q"),
        )
        program = (("a",), (("go", (), rows), ("be", (), ()), ("do", (), lot("r", "s"))))
        told = rows_of(program)
        self.assertEqual([row[1] for deed, row in told if row[0] == "say"], list("abcdefghijklmnopqrs"))
        self.assertEqual(
            [row[0] for deed, row in told],
            ["by"] + ["say"] * 4 + ["within", "say", "all", "say", "say", "ask", "say", "say", "say"]
            + ["either", "say", "say", "say", "again", "either", "say", "say", "say", "call", "say", "say", "say"])
        self.assertEqual([deed for deed, row in told], [0] * 25 + [2] * 2)
        self.assertEqual(told[0], (0, rows[0]))
        self.assertEqual(told[19], (0, inner))
        self.assertIs(type(told), tuple)
        self.assertTrue(all(type(one) is tuple for one in told))

    def test_none(self):
        self.assertEqual(rows_of((("a",), (("go", (), ()),))), ())

    def test_beyond_the_bounds(self):
        program = with_rows(((("again", (SAY,) * 13),) * 13), ())
        self.assertEqual(len(rows_of(program)), 13 * 14)
        self.assertEqual(len(rows_of(with_rows(deep_lot(9)))), 8)

    def test_by_name_and_again(self):
        kept = copy.deepcopy(EACH_SORT)
        self.assertEqual(rows_of(program=EACH_SORT), rows_of(EACH_SORT))
        self.assertEqual(EACH_SORT, kept)


def calling(calls, wrap=lambda rows: rows):
    """A program whose deeds call others as told, by names."""
    deeds = tuple(sorted(calls))
    return (("a",), tuple((deed, (), wrap(tuple(("call", other, ()) for other in calls[deed]))) for deed in deeds))


class TestCalls(unittest.TestCase):
    def test_each_once_and_rising(self):
        program = calling({"a": "cbcb", "b": "", "c": "ba"})
        self.assertEqual(calls_of(program), ((1, 2), (), (0, 1)))

    def test_by_number_not_by_name(self):
        program = (("a",), (("z", (), (("call", "b", ()), ("call", "m", ()))), ("m", (), ()), ("b", (), ())))
        self.assertEqual(calls_of(program), ((1, 2), (), ()))

    def test_in_each_lot(self):
        lock = ("a", ("", 0))
        lot = (("call", "b", ()),)
        rows = (("within", lock, lot), ("all", (lock, ("a", ("", 1))), lot), ("ask", lock, lot, ()),
                ("ask", lock, (), lot), ("either", lot, ()), ("either", (), lot), ("again", lot),
                ("by", ("", 0), ("", 0), lot, (), ()), ("by", ("", 0), ("", 0), (), lot, ()),
                ("by", ("", 0), ("", 0), (), (), lot), ("again", (("again", lot),)))
        for row in rows:
            program = (("a",), (("a", (), (row,)), ("b", (), ())))
            self.assertEqual(calls_of(program), ((1,), ()), row)

    def test_by_name(self):
        program = calling({"a": "b", "b": ""})
        self.assertEqual(calls_of(program=program), ((1,), ()))
        self.assertIs(comes_to_itself(program=program), False)

    def test_straight(self):
        self.assertIs(comes_to_itself(calling({"a": "a"})), True)
        self.assertIs(comes_to_itself(calling({"a": "", "b": "ab"})), True)

    def test_by_others(self):
        self.assertIs(comes_to_itself(calling({"a": "b", "b": "c", "c": "a"})), True)
        self.assertIs(comes_to_itself(calling({"a": "b", "b": "cd", "c": "", "d": "b"})), True)

    def test_none(self):
        self.assertIs(comes_to_itself(calling({"a": ""})), False)
        self.assertIs(comes_to_itself(calling({"a": "bcd", "b": "cd", "c": "d", "d": ""})), False)
        self.assertIs(comes_to_itself(EACH_SORT), False)

    def test_by_a_row_that_is_never_come_to(self):
        def never(rows):
            return (("by", ("", 0), ("", 1), (), rows, ()),)

        self.assertIs(comes_to_itself(calling({"a": "a"}, never)), True)
        self.assertIs(comes_to_itself(calling({"a": "b", "b": "a"}, never)), True)
        self.assertIs(comes_to_itself(calling({"a": "b", "b": ""}, never)), False)

    def test_as_ways_of_calls_say(self):
        for number in range(300):
            chance = seeded(number)
            calls = {deed: [other for other in "abcd" if chance.random() < 0.25] for deed in "abcd"}
            ways = {(one, other) for one in calls for other in calls[one]}
            for _ in calls:
                ways |= {(x, z) for x, y in ways for w, z in ways if w == y}
            self.assertIs(comes_to_itself(calling(calls)), any(x == y for x, y in ways))


if __name__ == "__main__":
    unittest.main()
