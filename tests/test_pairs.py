"""Point 21: what is known at rows, and which names are taken while which are held."""

import copy
import itertools
import unittest

from neverstuck.facts import holds
from neverstuck.pairs import known_at, pairs
from neverstuck.programs import rows_of
from neverstuck.scenes import begun, row_at
from neverstuck.steps import moves, stepped
from tests.helpers import (A, B, NAMES, SAY, crowded_program, program_of, random_program, random_term, random_town,
                           seeded)

C = ("c", ("", 0))
P, Q, R = ("p", 0), ("q", 0), ("r", 0)
TAKE_A, TAKE_B, TAKE_C = ("within", A, ()), ("within", B, ()), ("within", C, ())


def with_params(*rows):
    return (NAMES, (("go", ("p", "q", "r"), tuple(rows)),))


def by(one, other, first=(), second=(), third=()):
    return ("by", one, other, first, second, third)


def dead(*rows):
    """A row in whose first lot, which nobody comes to, these stand."""
    return ("by", ("", 1), ("", 0), tuple(rows), (), ())


def known_of(*rows):
    """What is known at each row."""
    program = with_params(*rows)
    return [known_at(program, number) for number in range(len(rows_of(program)))]


class TestKnownAt(unittest.TestCase):
    def test_in_each_lot_of_by(self):
        row = by(("p", 1), ("q", 5), (SAY,), (SAY,), (SAY,))
        self.assertEqual(known_of(row), [
            (),
            (("p", "q", 3),),
            (("p", "q", 4), ("q", "p", -4)),
            (("q", "p", -5),),
        ])

    def test_in_each_lot_of_by_with_a_number(self):
        row = by(("p", 1), ("", 5), (SAY,), (SAY,), (SAY,))
        self.assertEqual(known_of(row), [(), (("p", "", 3),), (("", "p", -4), ("p", "", 4)), (("", "p", -5),)])
        row = by(("", -5), ("p", -1), (SAY,), (SAY,), (SAY,))
        self.assertEqual(known_of(row), [(), (("", "p", 3),), (("", "p", 4), ("p", "", -4)), (("p", "", -5),)])

    def test_outside_of_by_nothing(self):
        others = (("do", (), ()),)
        program = program_of(SAY, ("within", A, (SAY,)), ("ask", A, (SAY,), (SAY,)), ("again", (SAY,)),
                             ("either", (SAY,), (SAY,)), ("all", (A, B), (("call", "do", ()),)), others=others)
        for number in range(len(rows_of(program))):
            self.assertEqual(known_at(program, number), ())

    def test_behind_by_nothing(self):
        self.assertEqual(known_of(by(P, Q, (SAY,)), SAY), [(), (("p", "q", -1),), ()])

    def test_in_by_within_by(self):
        inner = by(Q, R, (SAY,), (SAY,), (SAY,))
        self.assertEqual(known_of(by(P, Q, (inner,))), [
            (),
            (("p", "q", -1),),
            (("p", "q", -1), ("q", "r", -1)),
            (("p", "q", -1), ("q", "r", 0), ("r", "q", 0)),
            (("p", "q", -1), ("r", "q", -1)),
        ])

    def test_rising_whatever_stands_around(self):
        told = known_of(by(R, Q, (by(P, Q, (by(("", 0), R, (SAY,)),)),)))
        self.assertEqual(told[-1], (("", "r", -1), ("p", "q", -1), ("r", "q", -1)))

    def test_through_lots_of_other_rows(self):
        for around in (lambda *rows: ("within", A, rows), lambda *rows: ("all", (A, B), rows),
                       lambda *rows: ("ask", A, rows, ()), lambda *rows: ("ask", A, (), rows),
                       lambda *rows: ("either", rows, ()), lambda *rows: ("either", (), rows),
                       lambda *rows: ("again", rows)):
            told = known_of(by(P, Q, (), (), (around(by(P, R, (around(SAY),))),)))
            right = [(), (("q", "p", -1),), (("q", "p", -1),)] + [(("p", "r", -1), ("q", "p", -1))] * 2
            self.assertEqual(told, right)

    def test_each_once(self):
        self.assertEqual(known_of(by(P, Q, (by(P, Q, (SAY,)),)))[-1], (("p", "q", -1),))
        self.assertEqual(known_of(by(P, Q, (by(("p", 7), ("q", 7), (SAY,)),)))[-1], (("p", "q", -1),))
        self.assertEqual(known_of(by(P, Q, (by(Q, P, (), (), (SAY,)),)))[-1], (("p", "q", -1),))

    def test_a_fact_that_follows_of_another_is_told_too(self):
        self.assertEqual(known_of(by(P, Q, (by(P, ("q", 9), (SAY,)),)))[-1], (("p", "q", -1), ("p", "q", 8)))

    def test_terms_of_one_word_that_are_so_are_left_out(self):
        self.assertEqual(known_of(by(("p", 1), ("p", 2), (SAY,))), [(), ()])
        self.assertEqual(known_of(by(("p", 2), ("p", 2), (), (SAY,))), [(), ()])
        self.assertEqual(known_of(by(("p", 3), ("p", 2), (), (), (SAY,))), [(), ()])
        self.assertEqual(known_of(by(P, Q, (by(("p", 1), ("p", 2), (SAY,)),)))[-1], (("p", "q", -1),))

    def test_terms_of_one_word_that_arent(self):
        lots = ((SAY,),) * 3
        self.assertEqual(known_of(by(("p", 1), ("p", 2), *lots)), [(), (), None, None])
        self.assertEqual(known_of(by(("p", 2), ("p", 2), *lots)), [(), None, (), None])
        self.assertEqual(known_of(by(("p", 3), ("p", 2), *lots)), [(), None, None, ()])

    def test_terms_of_no_word(self):
        lots = ((SAY,),) * 3
        self.assertEqual(known_of(by(("", -99), ("", 99), *lots)), [(), (), None, None])
        self.assertEqual(known_of(by(("", 2), ("", 2), *lots)), [(), None, (), None])
        self.assertEqual(known_of(by(("", 3), ("", 2), *lots)), [(), None, None, ()])

    def test_facts_from_which_all_follows_by_two_around(self):
        inner = by(Q, P, (SAY,), (SAY,), (SAY,))
        self.assertEqual(known_of(by(P, Q, (inner,)))[2:], [None, None, (("p", "q", -1),)])
        self.assertEqual(known_of(by(P, Q, (), (inner,)))[2:], [None, (("p", "q", 0), ("q", "p", 0)), None])

    def test_facts_from_which_all_follows_by_all_around_together(self):
        told = known_of(by(P, Q, (by(Q, R, (by(R, P, (SAY,), (SAY,), (SAY,)),)),)))
        self.assertEqual(told[2], (("p", "q", -1), ("q", "r", -1)))
        self.assertEqual(told[3:], [None, None, (("p", "q", -1), ("p", "r", -1), ("q", "r", -1))])

    def test_facts_that_leave_no_whole_number(self):
        # p is more than 0 and less than 1: of whole numbers none.
        self.assertEqual(known_of(by(("", 0), P, (by(P, ("", 1), (SAY,)),)))[-1], None)
        self.assertEqual(known_of(by(("", 0), P, (by(P, ("", 2), (SAY,)),)))[-1], (("", "p", -1), ("p", "", 1)))

    def test_in_the_lots_of_a_dead_by(self):
        inner = by(P, Q, (SAY,), (SAY,), (("within", A, (SAY,)),))
        self.assertEqual(known_of(dead(inner))[1:], [None] * 5)

    def test_numbers_go_on_from_deed_to_deed(self):
        program = (NAMES, (("go", ("p",), (by(P, ("", 0), (SAY,)),)), ("do", ("q",), (SAY, by(Q, ("", 5), (SAY,))))))
        self.assertEqual([known_at(program, number) for number in range(5)],
                         [(), (("p", "", -1),), (), (), (("q", "", 4),)])

    def test_just_where_the_numbers_lead(self):
        told = {"dead": 0, "known": 0}
        for number in range(200):
            chance = seeded(number)
            program = (NAMES, (("go", ("p", "q"), self.drawn_lot(chance, 1)),))
            for place, ways in enumerate(self.ways_to(program[1][0][2], ())):
                facts = known_at(program, place)
                come = self.numbers_that_come(ways)
                if facts is None:
                    self.assertEqual(come, [])
                    told["dead"] += 1
                    continue
                self.assertNotEqual(come, [])
                self.assertEqual(facts, tuple(sorted(set(facts))))
                for p, q in itertools.product(range(-12, 13), repeat=2):
                    self.assertIs(all(holds(fact, {"p": p, "q": q}) for fact in facts), (p, q) in come)
                told["known"] += facts != ()
        self.assertGreater(min(told.values()), 100)

    def drawn_lot(self, chance, deep):
        if deep > 4:
            return (SAY,)
        one, other = random_term(chance, ("p", "q")), random_term(chance, ("p", "q"))
        lots = [(SAY,)] * 3
        lots[chance.randint(0, 2)] = self.drawn_lot(chance, deep + chance.randint(1, 2))
        return (("either", (), (("by", one, other) + tuple(lots),)),) if chance.randint(0, 3) == 0 else (
            ("by", one, other) + tuple(lots),)

    def ways_to(self, lot, ahead):
        """For each row, in order, the (one, other, lot) of by around it."""
        found = []
        for row in lot:
            found.append(ahead)
            for at, inner in enumerate(row[{"say": 2, "either": 1, "by": 3}[row[0]]:]):
                more = ((row[1], row[2], at),) if row[0] == "by" else ()
                found.extend(self.ways_to(inner, ahead + more))
        return found

    def numbers_that_come(self, ways):
        come = []
        for p, q in itertools.product(range(-12, 13), repeat=2):
            numbers = {"p": p, "q": q, "": 0}
            signs = [(numbers[one[0]] + one[1]) - (numbers[other[0]] + other[1]) for one, other, lot in ways]
            if all((sign < 0, sign == 0, sign > 0)[lot] for sign, (one, other, lot) in zip(signs, ways)):
                come.append((p, q))
        return come

    def test_by_names_and_nothing_changed(self):
        program = with_params(by(P, Q, (SAY,)))
        kept = copy.deepcopy(program)
        self.assertEqual(known_at(program=program, number=1), (("p", "q", -1),))
        self.assertEqual(known_at(program=program, number=1), known_at(program, 1))
        self.assertEqual(program, kept)
        self.assertIs(type(known_at(program, 1)), tuple)


class TestPairs(unittest.TestCase):
    def check(self, told, *rows, others=()):
        self.assertEqual(pairs(program_of(*rows, others=others)), told)

    def test_none(self):
        self.check(())
        self.check((), SAY, TAKE_A, TAKE_B, ("all", (A, B), (SAY,)))

    def test_within_within(self):
        self.check(((1, "a", "b"),), ("within", A, (TAKE_B,)))
        self.check(((1, "a", "a"),), ("within", A, (TAKE_A,)))
        self.check(((1, "a", "b"), (2, "a", "c"), (2, "b", "c")), ("within", A, (("within", B, (TAKE_C,)),)))

    def test_behind_a_within_it_isnt_held(self):
        self.check((), TAKE_A, TAKE_B)
        self.check(((1, "a", "b"), (3, "c", "a")), ("within", A, (TAKE_B,)), ("within", C, (TAKE_A,)))

    def test_all_takes_several(self):
        self.check(((1, "c", "a"), (1, "c", "b")), ("within", C, (("all", (B, A), ()),)))

    def test_all_holds_several(self):
        self.check(((1, "a", "c"), (1, "b", "c")), ("all", (B, A), (TAKE_C,)))
        row = ("all", (A, ("a", ("", 1))), (("all", (A, ("a", ("", 2)), B), ()),))
        self.check(((1, "a", "a"), (1, "a", "b")), row)

    def test_an_all_doesnt_hold_while_it_takes(self):
        self.check((), ("all", (A, B, C), ()))

    def test_ask_holds_in_its_first_lot_alone(self):
        self.check(((1, "a", "b"),), ("ask", A, (TAKE_B,), (TAKE_C,)))

    def test_an_ask_takes_nothing(self):
        self.check((), ("within", A, (("ask", B, (), ()),)))
        self.check(((2, "a", "c"), (2, "b", "c")), ("within", A, (("ask", B, (TAKE_C,), ()),)))
        self.check(((2, "a", "c"),), ("within", A, (("ask", B, (), (TAKE_C,)),)))

    def test_through_lots_of_other_rows(self):
        self.check(((2, "a", "b"),), ("within", A, (("either", (), (TAKE_B,)),)))
        self.check(((2, "a", "b"),), ("within", A, (("again", (TAKE_B,)),)))
        for lot in range(3):
            lots = [(), (), ()]
            lots[lot] = (TAKE_B,)
            self.assertEqual(pairs(with_params(("within", A, (by(P, Q, *lots),)))), ((2, "a", "b"),))

    def test_by_calls(self):
        others = (("do", (), (TAKE_C, ("all", (A, B), ()))),)
        self.check(((1, "a", "a"), (1, "a", "b"), (1, "a", "c")), ("within", A, (("call", "do", ()),)), others=others)
        self.check((), ("call", "do", ()), others=others)
        self.check((), ("within", A, (("call", "do", ()),)), others=(("do", (), (("ask", B, (), ()), SAY)),))
        self.check((), ("within", A, ()), ("call", "do", ()), others=others)

    def test_by_calls_of_calls(self):
        others = (("do", (), (SAY, ("either", (("call", "be", ()),), ()))), ("be", (), (("again", (TAKE_B,)),)))
        self.check(((1, "a", "b"),), ("within", A, (("call", "do", ()),)), others=others)
        others = (("do", (), (("within", C, (("call", "be", ()),)),)), ("be", (), (TAKE_B,)))
        self.check(((1, "a", "b"), (1, "a", "c"), (3, "c", "b")), ("within", A, (("call", "do", ()),)), others=others)

    def test_by_deeds_that_come_to_themselves(self):
        self.check(((1, "a", "a"),), ("within", A, (("call", "go", ()),)))
        self.check((), ("call", "go", ()))
        others = (("do", (), (TAKE_B, ("call", "be", ()))), ("be", (), (TAKE_C, ("call", "do", ()))))
        told = ((1, "a", "b"), (1, "a", "c"), (2, "a", "b"), (2, "a", "c"))
        self.check(told, ("within", A, (("call", "do", ()), ("call", "be", ()))), others=others)
        # The fewest names: what nobody locks isn't taken, however deeds call one another.
        others = (("do", (), (("call", "be", ()),)), ("be", (), (("call", "do", ()),)))
        self.check((), ("within", A, (("call", "do", ()),)), others=others)

    def test_names_of_a_deed_arent_those_of_its_callers(self):
        others = (("do", (), (TAKE_B,)), ("be", (), (TAKE_C, ("call", "do", ()))))
        self.check(((1, "a", "b"),), ("within", A, (("call", "do", ()),)), others=others)

    def test_dead_rows_are_not_told(self):
        self.check((), ("within", A, (dead(TAKE_B),)))
        self.check(((3, "a", "c"),), ("within", A, (dead(TAKE_B), TAKE_C)))
        self.check((), dead(("within", A, (TAKE_B,))))
        self.check((), ("within", A, (dead(("call", "do", ())),)), others=(("do", (), (TAKE_B,)),))

    def test_dead_rows_take_nothing(self):
        others = (("do", (), (dead(TAKE_B, ("all", (A, B), ())), TAKE_C)),)
        self.check(((1, "a", "c"),), ("within", A, (("call", "do", ()),)), others=others)

    def test_dead_calls_hand_nothing_on(self):
        others = (("do", (), (dead(("call", "be", ())), TAKE_C)), ("be", (), (TAKE_B,)))
        self.check(((1, "a", "c"),), ("within", A, (("call", "do", ()),)), others=others)
        others = (("do", (), (("call", "be", ()),)), ("be", (), (dead(("call", "on", ())), TAKE_C)),
                  ("on", (), (TAKE_B,)))
        self.check(((1, "a", "c"),), ("within", A, (("call", "do", ()),)), others=others)

    def test_a_dead_call_beside_one_that_isnt(self):
        others = (("do", (), (dead(("call", "be", ())), ("call", "be", ()))), ("be", (), (TAKE_B,)))
        self.check(((1, "a", "b"),), ("within", A, (("call", "do", ()),)), others=others)

    def test_dead_by_what_is_known_together(self):
        inner = by(Q, P, (TAKE_B,), (TAKE_B,), (TAKE_C,))
        self.assertEqual(pairs(with_params(("within", A, (by(P, Q, (inner,)),)))), ((5, "a", "c"),))

    def test_what_callers_know_isnt_known_in_the_deed(self):
        row = ("within", A, (by(P, Q, (("call", "do", (P, Q)),)),))
        program = (NAMES, (("go", ("p", "q"), (row,)), ("do", ("p", "q"), (by(Q, P, (TAKE_B,)),))))
        self.assertEqual(pairs(program), ((2, "a", "b"),))

    def test_rising_and_each_once(self):
        row = ("within", B, (("within", A, (("within", B, (("all", (C, A, ("c", ("", 1))), ()),)),)),))
        self.check(((1, "b", "a"), (2, "a", "b"), (2, "b", "b"),
                    (3, "a", "a"), (3, "a", "c"), (3, "b", "a"), (3, "b", "c")), row)

    def test_by_names_and_nothing_changed(self):
        program = program_of(("within", A, (TAKE_B,)))
        kept = copy.deepcopy(program)
        self.assertEqual(pairs(program=program), pairs(program))
        self.assertEqual(program, kept)
        self.assertIs(type(pairs(program)), tuple)

    def test_of_drawn_programs_by_walking(self):
        told = 0
        for number in range(500):
            chance = seeded(number)
            program = (random_program if number < 250 else crowded_program)(chance)
            self.assertEqual(pairs(program), pairs_by_walking(program), number)
            told += len(pairs(program))
        self.assertGreater(told, 1000)

    def test_each_taking_in_a_weaving_is_told(self):
        checked = 0
        for number in range(300):
            chance = seeded(number)
            program = (random_program if number < 150 else crowded_program)(chance)
            told = pairs(program)
            around = {place: held for place, held, row in walked_rows(program)}
            numbers = numbers_of_paths(program)
            sorts = [row[0] for deed, row in rows_of(program)]
            scene = begun(program, random_town(chance, program))
            for _ in range(30):
                able = moves(program, scene)
                if not able:
                    break
                hand, choice = chance.choice(able)
                there, _ = stepped(program, scene, (hand, choice))
                frames, held = scene[hand]
                if len(there[hand][1]) > len(held) and sorts[row_at(program, scene, hand)] != "ask":
                    for taken, _ in there[hand][1][-1]:
                        for deed, _, path in frames:
                            place = numbers[(deed, path)]
                            for name in around[place]:
                                self.assertIn((place, name, taken), told)
                                checked += 1
                scene = there
        self.assertGreater(checked, 200)


def lots_of(row):
    return row[{"say": 2, "call": 3, "by": 3, "either": 1, "again": 1}.get(row[0], 2):]


def locks_of(row):
    return {name for name, term in (row[1] if row[0] == "all" else (row[1],))}


def walked_rows(program):
    """Each row as (number, names held around it, row), by walking the lots from outside in."""
    found = []

    def walk(lot, held):
        for row in lot:
            found.append((len(found), held, row))
            for at, inner in enumerate(lots_of(row)):
                holds_here = row[0] in ("within", "all") or row[0] == "ask" and at == 0
                walk(inner, held | locks_of(row) if holds_here else held)

    for name, params, rows in program[1]:
        walk(rows, frozenset())
    return found


def numbers_of_paths(program):
    found = {}

    def walk(deed, lot, ahead):
        for at, row in enumerate(lot):
            found[(deed, ahead + (at,))] = len(found)
            for way, inner in enumerate(lots_of(row)):
                walk(deed, inner, ahead + (at, way))

    for deed, (name, params, rows) in enumerate(program[1]):
        walk(deed, rows, ())
    return found


def pairs_by_walking(program):
    names = [name for name, params, rows in program[1]]
    deeds = [deed for deed, row in rows_of(program)]
    living = [(number, held, row) for number, held, row in walked_rows(program)
              if known_at(program, number) is not None]
    takes = {name: set() for name in names}

    def taken(row):
        if row[0] == "call":
            return takes[row[1]]
        return locks_of(row) if row[0] in ("within", "all") else set()

    for _ in range(len(names) * len(NAMES) + 1):
        for number, held, row in living:
            takes[names[deeds[number]]] |= taken(row)
    return tuple(sorted({(number, one, other) for number, held, row in living for one in held for other in taken(row)}))


if __name__ == "__main__":
    unittest.main()
