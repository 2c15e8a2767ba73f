"""Point 29: locks taken out and put in."""

import copy
import unittest

from neverstuck.changing import old_number, with_lock, without_lock
from neverstuck.errors import NoLock, NoRow
from neverstuck.programs import is_program, rows_of
from tests.helpers import (A, B, NAMES, SAY, Loud, anything, crowded_program, nested, of_other_kinds, papered_program,
                           places, program_of, random_program, replaced, seeded)

P = ("p", 0)
C = ("c", ("", 0))


def marked(*letters):
    """Rows that say these, so that each can be told from the others."""
    return tuple(("say", letter) for letter in letters)


def with_marks(program):
    """The program with a row ahead of each row that says the number of that."""
    count = [0]

    def word(number):
        return "".join("abcdefghij"[int(figure)] for figure in str(number))

    def marks(lot):
        found = []
        for row in lot:
            number = count[0]
            count[0] += 1
            inner = tuple(marks(part) if is_lot(row, at) else part for at, part in enumerate(row))
            found.extend([("say", word(number)), inner])
        return tuple(found)

    def is_lot(row, at):
        return at >= {"say": 9, "call": 9, "within": 2, "all": 2, "ask": 2, "by": 3, "either": 1, "again": 1}[row[0]]

    return (program[0], tuple((deed, params, marks(rows)) for deed, params, rows in program[1]))


def taken_out(rows, number):
    """The rows with that of a number, counted by a list of one, taken out as it should be, by walking them all."""
    found = []
    for row in rows:
        here = number[0]
        number[0] -= 1
        head = {"say": 2, "call": 3, "within": 2, "all": 2, "ask": 2, "by": 3, "either": 1, "again": 1}[row[0]]
        lots = [taken_out(lot, number) for lot in row[head:]]
        found.extend(lots[0] if here == 0 else [row[:head] + tuple(lots)])
    return tuple(found)


class TestWithoutLock(unittest.TestCase):
    def check(self, program, number, other):
        self.assertEqual(without_lock(program, number), other)
        self.assertIs(is_program(other), True)

    def refused(self, program, number):
        with self.assertRaises(NoRow) as caught:
            without_lock(program, number)
        self.assertIs(type(caught.exception), NoRow)

    def test_of_each_sort(self):
        some = marked("x", "y")
        for row in (("within", A, some), ("all", (A, B), some), ("ask", A, some, ()),
                    ("ask", A, some, marked("u", "v"))):
            self.check(program_of(row), 0, program_of(*some))
            self.check(program_of(SAY, row, SAY), 1, program_of(SAY, *some, SAY))

    def test_of_a_lot_without_rows(self):
        for row in (("within", A, ()), ("all", (A, B), ()), ("ask", A, (), ()), ("ask", A, (), marked("u"))):
            self.check(program_of(row), 0, program_of())
            self.check(program_of(SAY, row), 1, program_of(SAY))

    def test_within_one_another(self):
        row = ("within", A, (("say", "x"), ("all", (A, B), (("ask", C, marked("y"), marked("z")),)), ("say", "u")))
        self.check(program_of(row), 0, program_of(*row[2]))
        inner = ("within", A, (("say", "x"), ("ask", C, marked("y"), marked("z")), ("say", "u")))
        self.check(program_of(row), 2, program_of(inner))
        inner = ("within", A, (("say", "x"), ("all", (A, B), marked("y")), ("say", "u")))
        self.check(program_of(row), 3, program_of(inner))

    def test_in_lots_of_all_sorts_of_rows(self):
        take = ("within", A, marked("x", "y"))
        for around in (lambda *rows: ("by", P, P, rows, (SAY,), (SAY,)), lambda *rows: ("by", P, P, (SAY,), rows, ()),
                       lambda *rows: ("by", P, P, (SAY,), (), rows), lambda *rows: ("either", rows, (SAY,)),
                       lambda *rows: ("either", (SAY,), rows), lambda *rows: ("again", rows),
                       lambda *rows: ("ask", B, rows, ()), lambda *rows: ("ask", B, (SAY,), rows),
                       lambda *rows: ("within", B, rows), lambda *rows: ("all", (A, B), rows)):
            program = (NAMES, (("go", ("p",), (around(take),)), ("do", (), (SAY,))))
            number = [row for _, row in rows_of(program)].index(take)
            self.check(program, number, (NAMES, (("go", ("p",), (around(*take[2]),)), ("do", (), (SAY,)))))

    def test_in_another_deed(self):
        take = ("within", A, (SAY,))
        program = program_of(SAY, take, others=[("do", (), (SAY, take, SAY))])
        self.check(program, 4, program_of(SAY, take, others=[("do", (), (SAY, SAY, SAY))]))

    def test_of_another_row_or_none(self):
        rows = (SAY, ("call", "go", (P,)), ("by", P, P, (), (), ()), ("either", (), ()), ("again", (SAY,)),
                ("within", A, ()))
        program = (NAMES, (("go", ("p",), rows[:1] + rows[2:]), ("do", ("p",), rows[1:2])))
        self.assertEqual(len(rows_of(program)), 7)
        for number in (-8, -3, -2, -1, 0, 1, 2, 3, 4, 6, 7, 8, 60, 10 ** 5000, -10 ** 5000):
            self.refused(program, number)
        without_lock(program, 5)
        for number in (-1, 0, 1):
            self.refused(program_of(), number)

    def test_of_a_lot_with_too_many_rows(self):
        for ahead in range(12):
            for inside in range(13):
                take = ("within", A, (SAY,) * inside)
                program = program_of(*(SAY,) * ahead, take)
                if ahead + inside <= 12:
                    self.check(program, ahead, program_of(*(SAY,) * (ahead + inside)))
                else:
                    self.refused(program, ahead)
        row = ("ask", A, (SAY,) * 2, (SAY,) * 12)
        self.check(program_of(*(SAY,) * 10, row), 10, program_of(*(SAY,) * 12))
        self.refused(program_of(*(SAY,) * 11, row), 11)
        self.refused(program_of(("again", (SAY,) * 11 + (("all", (A, B), (SAY,) * 2),))), 12)
        self.check(program_of(("again", (("within", A, (("within", B, (SAY,) * 12),)),))), 1,
                   program_of(("again", (("within", B, (SAY,) * 12),))))

    def test_of_drawn_programs(self):
        done = 0
        for seed in range(150):
            program = (random_program, crowded_program)[seed % 2](seeded(seed))
            for number, (deed, row) in enumerate(rows_of(program) if is_program(program) else ()):
                if row[0] not in ("within", "all", "ask"):
                    self.refused(program, number)
                    continue
                left = [number]
                deeds = tuple((name, params, taken_out(rows, left)) for name, params, rows in program[1])
                self.check(program, number, (program[0], deeds))
                done += 1
        self.assertGreater(done, 300)

    def test_by_names_and_nothing_changed(self):
        program = program_of(("within", A, (SAY,)))
        kept = copy.deepcopy(program)
        self.assertEqual(without_lock(program=program, number=0), program_of(SAY))
        self.assertEqual(program, kept)


class TestWithLock(unittest.TestCase):
    def refused(self, error, program, number, lock):
        with self.assertRaises(error) as caught:
            with_lock(program, number, lock)
        self.assertIs(type(caught.exception), error)

    def test_at_a_row_of_each_sort(self):
        rows = (SAY, ("call", "go", (P,)), ("within", A, (SAY,)), ("all", (A, B), ()), ("ask", A, (SAY,), (SAY,)),
                ("by", P, P, (SAY,), (), (SAY,)), ("either", (), (SAY,)), ("again", (SAY,)))
        program = (NAMES, (("go", ("p",), rows),))
        numbers = [[row for _, row in rows_of(program)].index(row) for row in rows]
        for lock in (A, ("b", ("p", 99)), ("c", ("", -99))):
            for at, number in enumerate(numbers):
                other = (NAMES, (("go", ("p",), rows[:at] + (("within", lock, (rows[at],)),) + rows[at + 1:]),))
                self.assertEqual(with_lock(program, number, lock), other)
                self.assertIs(is_program(other), True)

    def test_at_a_row_in_a_lot_and_in_another_deed(self):
        program = program_of(("again", (SAY, ("say", "y"))), others=[("do", ("p",), (SAY, ("either", (), (SAY,))))])
        other = program_of(("again", (SAY, ("within", B, (("say", "y"),)))), others=program[1][1:])
        self.assertEqual(with_lock(program, 2, B), other)
        lock = ("a", ("p", 3))
        do = ("do", ("p",), (SAY, ("either", (), (("within", lock, (SAY,)),))))
        self.assertEqual(with_lock(program, 5, lock), program[:1] + ((program[1][0], do),))

    def test_where_there_is_no_such_row(self):
        program = program_of(SAY, SAY)
        for number in (-3, -2, -1, 2, 3, 60, 10 ** 5000, -10 ** 5000):
            for lock in (A, None, (), ("x", P), Loud()):
                self.refused(NoRow, program, number, lock)
        self.refused(NoRow, program_of(), 0, A)

    def test_too_deep(self):
        for sort in (lambda *rows: ("again", rows), lambda *rows: ("within", A, rows),
                     lambda *rows: ("either", (), rows)):
            for many in range(5):
                program = program_of(nested(SAY, many, sort))
                for number in range(many + 1):
                    # The lots reach one deeper, wherever the lock is put in.
                    if many < 4:
                        self.assertIs(is_program(with_lock(program, number, A)), True)
                    else:
                        for lock in (A, None, ("x", P)):
                            self.refused(NoRow, program, number, lock)

    def test_too_deep_by_lots_without_rows_and_beside_others(self):
        row = nested(("again", ()), 3, lambda x: ("again", (x,)))
        for number in range(4):
            self.refused(NoRow, program_of(row), number, A)
        row = ("again", (SAY, ("either", (SAY,), (("again", (("again", (SAY,)),)),))))
        for number, right in ((0, False), (1, True), (2, False), (3, True), (4, False), (5, False), (6, False)):
            if right:
                self.assertIs(is_program(with_lock(program_of(row), number, A)), True)
            else:
                self.refused(NoRow, program_of(row), number, A)

    def test_the_sixty_first(self):
        lot = (SAY,) * 12
        program = (NAMES, tuple((deed, (), lot) for deed in ("go", "do", "be", "so", "to")))
        for number in (0, 30, 59):
            for lock in (A, None, ("x", P), []):
                self.refused(NoRow, program, number, lock)
        fewer = (NAMES, program[1][:4] + (("to", (), lot[1:]),))
        other = with_lock(fewer, 58, A)
        self.assertEqual(len(rows_of(other)), 60)
        self.assertIs(is_program(other), True)
        self.refused(NoLock, fewer, 58, None)
        self.refused(NoRow, other, 0, A)

    def test_what_is_no_lock(self):
        program = (NAMES, (("go", ("p", "q"), (SAY,)), ("do", ("r",), (SAY,))))
        lock = ("a", ("p", 1))
        self.assertEqual(with_lock(program, 0, lock)[1][0][2], (("within", lock, (SAY,)),))
        self.refused(NoLock, program, 1, lock)
        with_lock(program, 1, ("a", ("r", 1)))
        self.refused(NoLock, program, 0, ("a", ("r", 1)))
        for thing in (("d", P), ("go", P), ("", P), ("p", P), ("a", ("p", 100)), ("a", ("p", -100)), ("a", ("a", 0)),
                      ("a", 0), ("a", "p"), ("a",), ("a", P, P), (P, "a"), ("a", ()), ("a", ("p",)), ("a", ("P", 0))):
            self.refused(NoLock, program, 0, thing)
        for path in places(lock):
            for thing in anything():
                self.refused(NoLock, program, 0, replaced(lock, path, thing))
        for thing in of_other_kinds(lock) + [("a", ("p", True)), ("a", (Loud(), 1)), (Loud(), P)]:
            self.refused(NoLock, program, 0, thing)

    def test_without_it_the_program_is_as_it_was(self):
        done = 0
        for seed in range(60):
            program = random_program(seeded(seed))
            for number in range(len(rows_of(program))):
                try:
                    other = with_lock(program, number, A)
                except NoRow:
                    continue
                self.assertEqual(without_lock(other, number), program)
                done += 1
        self.assertGreater(done, 100)

    def test_by_names_and_nothing_changed(self):
        program = program_of(SAY)
        kept = copy.deepcopy(program)
        self.assertEqual(with_lock(program=program, number=0, lock=A), program_of(("within", A, (SAY,))))
        self.assertEqual(program, kept)


class TestOldNumber(unittest.TestCase):
    def numbers(self, program, number):
        many = len(rows_of(without_lock(program, number)))
        return [old_number(program, number, other) for other in range(many)]

    def test_of_within_and_all(self):
        for row in (("within", A, (SAY, ("again", (SAY,)))), ("all", (A, B), (SAY, ("again", (SAY,))))):
            self.assertEqual(self.numbers(program_of(SAY, row, SAY, SAY), 1), [0, 2, 3, 4, 5, 6])
            self.assertEqual(self.numbers(program_of(row), 0), [1, 2, 3])

    def test_of_ask_with_rows_in_its_second_lot(self):
        row = ("ask", A, (SAY, SAY), (SAY, ("either", (SAY,), (SAY,))))
        self.assertEqual(self.numbers(program_of(SAY, row, SAY, others=[("do", (), (SAY,))]), 1), [0, 2, 3, 8, 9])
        self.assertEqual(self.numbers(program_of(("ask", A, (), (SAY,)), SAY), 0), [2])
        self.assertEqual(self.numbers(program_of(("ask", A, (SAY,), ()), SAY), 0), [1, 2])

    def test_of_one_within_another(self):
        row = ("within", A, (SAY, ("ask", B, (("within", C, (SAY,)),), (SAY,)), SAY))
        program = program_of(row, SAY)
        self.assertEqual(self.numbers(program, 0), [1, 2, 3, 4, 5, 6, 7])
        self.assertEqual(self.numbers(program, 2), [0, 1, 3, 4, 6, 7])
        self.assertEqual(self.numbers(program, 3), [0, 1, 2, 4, 5, 6, 7])

    def test_the_rows_themselves_are_those(self):
        """By programs in which each row has a mark ahead of it that is no other's."""
        done = 0
        for seed in range(80):
            chance = seeded(seed)
            program = with_marks(random_program(chance) if seed % 2 else papered_program(chance, 40, 2)[0])
            rows = [row for _, row in rows_of(program)]
            for number, row in enumerate(rows):
                if row[0] not in ("within", "all", "ask"):
                    continue
                try:
                    behind = [other for _, other in rows_of(without_lock(program, number))]
                except NoRow:
                    continue
                done += 1
                told = [old_number(program, number, other) for other in range(len(behind))]
                self.assertEqual(sorted(set(told)), told)
                self.assertNotIn(number, told)
                for other, old in zip(behind, told):
                    self.assertEqual(other[0], rows[old][0])
                    if other[0] == "say":
                        self.assertEqual(other, rows[old])
        self.assertGreater(done, 100)

    def test_by_names(self):
        program = program_of(("within", A, (SAY,)))
        self.assertEqual(old_number(program=program, number=0, other=0), 1)
        self.assertIs(type(old_number(program, 0, 0)), int)


if __name__ == "__main__":
    unittest.main()
