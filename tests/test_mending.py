"""Point 30: locks asked for instead, and the fewest that mend."""

import copy
import itertools
import unittest

from neverstuck.errors import NoRow
from neverstuck.finding import paper_for
from neverstuck.mending import asked_instead, mends
from neverstuck.programs import is_program, rows_of
from tests.helpers import (A, B, NAMES, SAY, at_place, crowded_program, papered_program, places, program_of,
                           random_program, seeded, with_row)

C = ("c", ("", 0))
P = ("p", 0)


def within(lock, *rows):
    return ("within", lock, rows)


def ask(lock, *rows):
    return ("ask", lock, rows, ())


def numbers_of_within(program):
    return [number for number, (_, row) in enumerate(rows_of(program)) if row[0] == "within"]


def mends_by_trying(program, most):
    for many in range(most + 1):
        for some in itertools.combinations(numbers_of_within(program), many):
            if paper_for(asked_instead(program, some)) is not None:
                return some
    return None


class TestAskedInstead(unittest.TestCase):
    def check(self, program, some, other):
        self.assertEqual(asked_instead(program, some), other)
        self.assertIs(is_program(other), True)

    def refused(self, program, some):
        with self.assertRaises(NoRow) as caught:
            asked_instead(program, some)
        self.assertIs(type(caught.exception), NoRow)

    def test_none(self):
        for program in (program_of(), program_of(SAY), program_of(within(A))):
            self.check(program, (), program)

    def test_one(self):
        program = program_of(SAY, within(A, SAY, SAY), within(B))
        self.check(program, (1,), program_of(SAY, ask(A, SAY, SAY), within(B)))
        self.check(program, (4,), program_of(SAY, within(A, SAY, SAY), ask(B)))

    def test_several(self):
        program = program_of(within(A), within(B, SAY), others=[("do", ("p",), (("again", (within(("c", P)),)),))])
        others = [("do", ("p",), (("again", (ask(("c", P)),)),))]
        self.check(program, (0, 1), program_of(ask(A), ask(B, SAY), others=program[1][1:]))
        self.check(program, (0, 4), program_of(ask(A), within(B, SAY), others=others))
        self.check(program, (0, 1, 4), program_of(ask(A), ask(B, SAY), others=others))

    def test_one_within_another(self):
        program = program_of(within(A, SAY, within(B, within(C, SAY))), SAY)
        self.check(program, (0,), program_of(ask(A, SAY, within(B, within(C, SAY))), SAY))
        self.check(program, (0, 2), program_of(ask(A, SAY, ask(B, within(C, SAY))), SAY))
        self.check(program, (2, 3), program_of(within(A, SAY, ask(B, ask(C, SAY))), SAY))
        self.check(program, (0, 2, 3), program_of(ask(A, SAY, ask(B, ask(C, SAY))), SAY))

    def test_as_deep_as_may_be(self):
        program = program_of(within(A, within(B, within(C, within(A, SAY)))))
        self.check(program, (0, 1, 2, 3), program_of(ask(A, ask(B, ask(C, ask(A, SAY))))))

    def test_in_lots_of_all_sorts_of_rows(self):
        for around in (lambda *rows: ("by", P, P, rows, (SAY,), (SAY,)), lambda *rows: ("by", P, P, (), rows, ()),
                       lambda *rows: ("by", P, P, (), (), rows), lambda *rows: ("either", rows, (SAY,)),
                       lambda *rows: ("either", (), rows), lambda *rows: ("again", rows),
                       lambda *rows: ("ask", B, rows, ()), lambda *rows: ("ask", B, (), rows),
                       lambda *rows: ("within", B, rows), lambda *rows: ("all", (A, B), rows)):
            program = (NAMES, (("go", ("p",), (around(within(A, SAY)),)),))
            self.check(program, (1,), (NAMES, (("go", ("p",), (around(ask(A, SAY)),)),)))

    def test_where_one_is_none(self):
        rows = (SAY, ("call", "go", (P,)), ("by", P, P, (), (), ()), ("either", (), ()), ("again", ()), within(A),
                ("all", (A, B), ()), ("ask", A, (), ()))
        program = (NAMES, (("go", ("p",), rows),))
        for number in (-9, -3, -1, 0, 1, 2, 3, 4, 6, 7, 8, 60, 10 ** 5000):
            self.refused(program, (number,))
            self.refused(program, tuple(sorted((number, 5))))
        self.check(program, (5,), (NAMES, (("go", ("p",), rows[:5] + (ask(A),) + rows[6:]),)))

    def test_numbers_of_rows_stay_as_they_are(self):
        for seed in range(60):
            chance = seeded(seed)
            program = random_program(chance)
            numbers = numbers_of_within(program)
            some = tuple(sorted(chance.sample(numbers, chance.randint(0, len(numbers)))))
            told = rows_of(asked_instead(program, some))
            self.assertEqual(len(told), len(rows_of(program)))
            for number, ((deed, row), (old_deed, old)) in enumerate(zip(told, rows_of(program))):
                self.assertEqual(deed, old_deed)
                if number in some:
                    self.assertEqual((row[0], row[1], row[3]), ("ask", old[1], ()))
                else:
                    self.assertEqual(row[0], old[0])

    def test_by_names_and_nothing_changed(self):
        program = program_of(within(A, within(B)))
        kept = copy.deepcopy(program)
        self.assertEqual(asked_instead(program=program, some=(1,)), program_of(within(A, ask(B))))
        self.assertEqual(program, kept)


class TestMends(unittest.TestCase):
    def check(self, program, *told):
        """What is told of most 0, 1 and 2."""
        for most, right in enumerate(told):
            self.assertEqual(mends(program, most), right)
            self.assertEqual(mends_by_trying(program, most), right)

    def test_where_there_is_a_paper(self):
        self.check(program_of(SAY, within(A, within(B))), (), (), ())

    def test_one_lock(self):
        self.check(program_of(within(A, within(A))), None, (1,), (1,))
        self.check(program_of(within(A, within(B)), within(B, within(A))), None, (1,), (1,))
        self.check(program_of(within(A, within(B, within(A)))), None, (2,), (2,))
        # b is taken while a is held in two places, so that one lock alone mends by the other way round.
        rows = within(A, within(B)), within(A, within(B)), within(B, within(A))
        self.check(program_of(*rows), None, (5,), (5,))

    def test_two_locks(self):
        rows = within(A, within(B)), within(B, within(A))
        self.check(program_of(*rows, within(C, within(C))), None, None, (1, 5))
        self.check(program_of(*rows, *rows), None, None, (1, 5))
        self.check(program_of(within(A, within(A)), within(B, within(B))), None, None, (1, 3))
        self.check(program_of(*[within(A, within(A))] * 3), None, None, None)

    def test_what_is_taken_by_a_called_deed(self):
        others = [("do", (), (within(A),)), ("be", (), (("call", "do", ()),))]
        program = program_of(within(A, ("call", "be", ())), others=others)
        self.check(program, None, (2,), (2,))
        others = [("do", (), (("all", (A, B), ()),)), ("be", (), (("call", "do", ()),))]
        self.check(program_of(within(A, ("call", "be", ())), others=others), None, None, None)

    def test_by_numbers(self):
        eat = (("fork",), (("eat", ("p", "q"), (within(("fork", P), within(("fork", ("q", 0)), SAY)),)),))
        self.check(eat, None, (1,), (1,))
        rows = within(("a", P), within(("a", ("p", 1)))), within(("a", P), within(("a", ("p", -1))))
        self.check((NAMES, (("go", ("p",), rows),)), None, (1,), (1,))
        rows = rows[:1] * 2 + rows[1:]
        self.check((NAMES, (("go", ("p",), rows),)), None, (5,), (5,))

    def test_a_dead_within_mends_nothing(self):
        dead = ("by", ("", 1), ("", 0), (within(A),), (), ())
        self.check(program_of(dead, within(A, within(A)), dead), None, (3,), (3,))

    def test_drawn_programs(self):
        met = set()
        for seed in range(250):
            chance = seeded(seed)
            program = (random_program, crowded_program)[seed % 2](chance)
            if len(numbers_of_within(program)) > 9:
                continue
            told = [mends_by_trying(program, most) for most in range(3)]
            self.check(program, *told)
            met |= {some if some is None else len(some) for some in told}
        self.assertEqual(met, {None, 0, 1, 2})

    def test_programs_with_a_paper_and_a_row_or_two_more(self):
        met = set()
        for seed in range(100):
            chance = seeded(seed)
            program, _ = papered_program(chance, 40, chance.choice((2, 99)))
            for _ in range(chance.randint(1, 2)):
                deed = chance.randrange(len(program[1]))
                lock = ("a", (chance.choice(program[1][deed][1] + ("",)), chance.randint(-2, 2)))
                other = with_row(program, deed, (), within(lock, within(lock)))
                program = other if is_program(other) else program
            if len(numbers_of_within(program)) < 14:
                told = mends(program, 2)
                self.assertEqual(told, mends_by_trying(program, 2))
                met.add(told if told is None else len(told))
        self.assertLessEqual({1, 2}, met)

    def test_by_names_and_nothing_changed(self):
        program = program_of(within(A, within(A)))
        kept = copy.deepcopy(program)
        told = mends(program=program, most=1)
        self.assertEqual(told, mends(program, 1))
        self.assertEqual(program, kept)
        self.assertTrue(all(type(at_place(told, path)) in (tuple, int) for path in places(told)))


if __name__ == "__main__":
    unittest.main()
