"""Points 9 to 11: scenes, where hands stand, what is held and waited for."""

import copy
import unittest

from neverstuck.programs import rows_of
from neverstuck.scenes import begun, held_by, row_at, waits
from neverstuck.steps import walked
from tests.helpers import A, B, NAMES, SAY, go, program_of


def path_behind(program, *choices):
    """Where the one frame of the one hand stands behind moves with these choices; None once it is done."""
    scene, _ = walked(program, go(), tuple((0, choice) for choice in choices))
    frames = scene[0][0]
    if not frames:
        return None
    assert len(frames) == 1
    return frames[0][2]


class TestBegun(unittest.TestCase):
    def test_of_deeds_with_rows(self):
        program = (NAMES, (("do", ("p", "q"), (SAY,)), ("go", (), (SAY, SAY))))
        town = (("go", ()), ("do", (5, -99)), ("do", (0, 0)))
        self.assertEqual(begun(program, town), (
            (((1, (), (0,)),), ()),
            (((0, (5, -99), (0,)),), ()),
            (((0, (0, 0), (0,)),), ()),
        ))

    def test_of_deeds_without_rows(self):
        program = (NAMES, (("do", ("p",), ()), ("go", (), (SAY,))))
        self.assertEqual(begun(program, (("do", (1,)), ("go", ()), ("do", (2,)))),
                         (((), ()), (((1, (), (0,)),), ()), ((), ())))

    def test_lots_without_rows_at_the_beginning(self):
        for row in (("within", A, ()), ("all", (A, B), ()), ("ask", A, (), ()), ("either", (), ()), ("again", ()),
                    ("by", ("", 0), ("", 0), (), (), ()), ("call", "do", ())):
            program = program_of(row, others=(("do", (), ()),))
            self.assertEqual(begun(program, go()), ((((0, (), (0,)),), ()),), row)

    def test_lots_with_rows_at_the_beginning(self):
        program = program_of(("again", (("either", (SAY,), ()),)))
        self.assertEqual(begun(program, go()), ((((0, (), (0,)),), ()),))

    def test_four_hands_and_names(self):
        program = program_of(SAY)
        kept = copy.deepcopy(program)
        town = go(4)
        self.assertEqual(begun(program=program, town=town), ((((0, (), (0,)),), ()),) * 4)
        self.assertEqual(begun(program=program, town=town), begun(program, town))
        self.assertEqual((program, town), (kept, go(4)))


class TestNext(unittest.TestCase):
    def test_behind_say(self):
        self.assertEqual(path_behind(program_of(SAY, SAY), 0), (1,))
        self.assertIsNone(path_behind(program_of(SAY), 0))

    def test_in_lots_the_next_row_of_the_lot(self):
        program = program_of(SAY, ("either", (), (SAY, SAY)))
        self.assertEqual(path_behind(program, 0, 1), (1, 1, 0))
        self.assertEqual(path_behind(program, 0, 1, 0), (1, 1, 1))

    def test_at_the_end_of_either(self):
        program = program_of(("either", (SAY,), (SAY, SAY)), SAY)
        self.assertEqual(path_behind(program, 0), (0, 0, 0))
        self.assertEqual(path_behind(program, 0, 0), (1,))
        self.assertEqual(path_behind(program, 1, 0, 0), (1,))

    def test_at_the_end_of_by(self):
        for lot, (one, other) in enumerate(((0, 1), (1, 1), (1, 0))):
            lots = [(), (), ()]
            lots[lot] = (SAY,)
            program = program_of(("by", ("", one), ("", other)) + tuple(lots), SAY)
            self.assertEqual(path_behind(program, 0), (0, lot, 0))
            self.assertEqual(path_behind(program, 0, 0), (1,))

    def test_at_the_end_of_again_that_row_is_next(self):
        program = program_of(SAY, ("again", (SAY, SAY)), SAY)
        self.assertEqual(path_behind(program, 0, 1), (1, 0, 0))
        self.assertEqual(path_behind(program, 0, 1, 0), (1, 0, 1))
        self.assertEqual(path_behind(program, 0, 1, 0, 0), (1,))
        self.assertEqual(path_behind(program, 0, 1, 0, 0, 1), (1, 0, 0))
        self.assertEqual(path_behind(program, 0, 1, 0, 0, 0), (2,))
        self.assertEqual(path_behind(program_of(("again", ())), 1, 1, 1), (0,))
        self.assertIsNone(path_behind(program_of(("again", ())), 1, 1, 1, 0))

    def test_standing_still_at_the_end_of_within(self):
        program = program_of(("within", A, (SAY,)), SAY)
        self.assertEqual(path_behind(program, 0), (0, 0, 0))
        self.assertEqual(path_behind(program, 0, 0), (0, 0, 1))
        self.assertEqual(path_behind(program, 0, 0, 0), (1,))
        self.assertEqual(path_behind(program_of(("within", A, ())), 0), (0, 0, 0))
        self.assertIsNone(path_behind(program_of(("within", A, ())), 0, 0))

    def test_standing_still_at_the_end_of_all(self):
        program = program_of(("all", (A, B), (SAY,)), SAY)
        self.assertEqual(path_behind(program, 0, 0), (0, 0, 1))
        self.assertEqual(path_behind(program, 0, 0, 0), (1,))
        self.assertEqual(path_behind(program_of(("all", (A, B), ())), 0), (0, 0, 0))

    def test_standing_still_at_the_end_of_the_first_lot_of_ask(self):
        program = program_of(("ask", A, (SAY, SAY), ()), SAY)
        self.assertEqual(path_behind(program, 0, 0, 0), (0, 0, 2))
        self.assertEqual(path_behind(program, 0, 0, 0, 0), (1,))
        self.assertEqual(path_behind(program_of(("ask", A, (), ())), 0), (0, 0, 0))

    def test_at_the_end_of_the_other_lot_of_ask(self):
        program = program_of(("within", A, (("ask", A, (), (SAY,)), SAY)))
        self.assertEqual(path_behind(program, 0, 0), (0, 0, 0, 1, 0))
        self.assertEqual(path_behind(program, 0, 0, 0), (0, 0, 1))
        program = program_of(("within", A, (("ask", A, (), ()), SAY)))
        self.assertEqual(path_behind(program, 0, 0), (0, 0, 1))

    def test_empty_lots_are_gone_through_at_once(self):
        for row in (("either", (), ()), ("by", ("", 0), ("", 0), (), (), ()), ("by", ("", 0), ("", 1), (), (), ()),
                    ("by", ("", 1), ("", 0), (), (), ()), ("again", ())):
            self.assertEqual(path_behind(program_of(row, SAY), 0), (1,), row)
            self.assertIsNone(path_behind(program_of(row), 0), row)

    def test_from_end_to_end(self):
        by = ("by", ("", 0), ("", 0), (), (SAY,), ())
        program = program_of(("either", (), (("either", (by,), ()),)), SAY)
        self.assertEqual(path_behind(program, 1, 0, 0), (0, 1, 0, 0, 0, 1, 0))
        self.assertEqual(path_behind(program, 1, 0, 0, 0), (1,))
        program = program_of(("again", (("either", (by,), ()),)))
        self.assertEqual(path_behind(program, 1, 0, 0, 0), (0,))
        program = program_of(("within", A, (("either", (by,), ()),)))
        self.assertEqual(path_behind(program, 0, 0, 0, 0), (0, 0, 1))
        program = program_of(("either", (("within", A, ()),), ()), SAY)
        self.assertEqual(path_behind(program, 0, 0), (0, 0, 0, 0, 0))
        self.assertEqual(path_behind(program, 0, 0, 0), (1,))

    def test_out_of_calls(self):
        others = (("do", ("p",), (SAY,)), ("no", (), ()), ("on", (), (("call", "do", (("", 7),)),)))
        program = program_of(("call", "on", ()), SAY, others=others)
        scene, _ = walked(program, go(), ((0, 0), (0, 0)))
        self.assertEqual(scene, ((((0, (), (0,)), (3, (), (0,)), (1, (7,), (0,))), ()),))
        scene, _ = walked(program, go(), ((0, 0),) * 3)
        self.assertEqual(scene, ((((0, (), (1,)),), ()),))
        scene, _ = walked(program, go(), ((0, 0),) * 4)
        self.assertEqual(scene, (((), ()),))

    def test_out_of_a_call_of_a_deed_without_rows(self):
        others = (("no", (), ()),)
        call = ("call", "no", ())
        self.assertEqual(path_behind(program_of(call, SAY, others=others), 0), (1,))
        self.assertIsNone(path_behind(program_of(call, others=others), 0))
        self.assertEqual(path_behind(program_of(("again", (call,)), others=others), 1, 0), (0,))
        self.assertEqual(path_behind(program_of(("within", A, (call,)), others=others), 0, 0), (0, 0, 1))
        self.assertEqual(path_behind(program_of(("either", (call,), ()), SAY, others=others), 0, 0), (1,))

    def test_out_of_calls_to_an_end_where_one_stands(self):
        others = (("do", (), (("either", (SAY,), ()),)), ("on", (), (("again", (("call", "do", ()),)),)))
        program = program_of(("within", A, (("call", "do", ()),)), others=others)
        scene, _ = walked(program, go(), ((0, 0),) * 4)
        self.assertEqual(scene, ((((0, (), (0, 0, 1)),), ((("a", 0),),)),))
        program = program_of(("call", "on", ()), others=others)
        scene, _ = walked(program, go(), ((0, 0), (0, 1), (0, 0), (0, 0), (0, 0)))
        self.assertEqual(scene, ((((0, (), (0,)), (2, (), (0,))), ()),))

    def test_many_frames(self):
        program = (NAMES, (("go", ("p",), (("either", (("call", "go", (("p", 1),)),), (SAY,)),)),))
        scene, _ = walked(program, (("go", (0,)),), ((0, 0),) * 6000)
        self.assertEqual(len(scene[0][0]), 3001)
        self.assertEqual(scene[0][0][-1], (0, (3000,), (0,)))
        self.assertEqual(row_at(program, scene, 0), 0)
        scene, _ = walked(program, (("go", (0,)),), ((0, 0),) * 6000 + ((0, 1), (0, 0)))
        self.assertEqual(scene, (((), ()),))


class TestHeld(unittest.TestCase):
    program = program_of(("within", A, (("all", (("c", ("", 2)), ("b", ("", 3))), (SAY,)),)))

    def test_of_a_held_and_of_a_free_lock(self):
        scene, _ = walked(self.program, go(3), ((1, 0), (1, 0)))
        self.assertEqual(scene[1][1], ((("a", 0),), (("b", 3), ("c", 2))))
        self.assertEqual(held_by(scene, ("a", 0)), 1)
        self.assertEqual(held_by(scene, ("b", 3)), 1)
        self.assertEqual(held_by(scene, ("c", 2)), 1)
        for lock in (("a", 1), ("b", 2), ("c", 3), ("a", 10 ** 30), ("d", 0)):
            self.assertIsNone(held_by(scene, lock))

    def test_of_the_hand_that_holds_it(self):
        program = (NAMES, (("go", ("p",), (("within", ("a", ("p", 0)), ()),)),))
        scene, _ = walked(program, (("go", (5,)), ("go", (6,)), ("go", (7,))), ((2, 0), (0, 0)))
        self.assertEqual([held_by(scene, ("a", number)) for number in (5, 6, 7)], [0, None, 2])
        self.assertEqual(held_by(scene=scene, lock=("a", 5)), 0)
        self.assertIs(type(held_by(scene, ("a", 5))), int)

    def test_none_at_the_beginning_and_behind_the_end(self):
        for weaving in ((), ((0, 0),) * 5):
            scene, _ = walked(self.program, go(), weaving)
            self.assertIsNone(held_by(scene, ("a", 0)))


class TestRowAt(unittest.TestCase):
    program = (NAMES, (
        ("do", (), (SAY, ("either", (SAY,), (SAY, SAY)))),
        ("go", (), (
            ("by", ("", 1), ("", 1), (SAY, SAY), (SAY,), ()),
            ("within", A, (SAY, ("call", "do", ()), ("all", (B, ("c", ("", 0))), (SAY,)))),
            ("ask", A, (SAY,), ()),
        )),
    ))

    def rows_walked(self, *choices):
        told = []
        for many in range(len(choices) + 1):
            weaving = tuple((0, choice) for choice in choices[:many])
            scene, _ = walked(self.program, go(), weaving)
            told.append(row_at(self.program, scene, 0))
        return told

    def test_at_rows_and_at_ends(self):
        # by, its say, within, its say, call, do's say, either, its other two, all, its say, the ends of both, ask ..
        self.assertEqual(self.rows_walked(0, 0, 0, 0, 0, 0, 1, 0, 0, 0, 0, 0, 0, 0, 0, 0),
                         [5, 8, 9, 10, 11, 0, 1, 3, 4, 12, 13, 12, 9, 14, 15, 14, None])

    def test_numbers_are_those_of_rows_of(self):
        rows = rows_of(self.program)
        self.assertEqual(rows[9][1][0], "within")
        self.assertEqual(rows[12][1][0], "all")
        self.assertEqual(rows[14][1][0], "ask")

    def test_like_rows_in_unlike_places(self):
        program = program_of(SAY, SAY, ("again", (SAY, SAY)))
        told = [row_at(program, walked(program, go(), weaving)[0], 0)
                for weaving in ((), ((0, 0),), ((0, 0),) * 2, ((0, 0),) * 2 + ((0, 1), (0, 0)))]
        self.assertEqual(told, [0, 1, 2, 4])

    def test_of_several_hands(self):
        program = program_of(SAY, SAY)
        scene, _ = walked(program, go(3), ((0, 0), (0, 0), (1, 0)))
        self.assertEqual([row_at(program=program, scene=scene, hand=hand) for hand in range(3)], [None, 1, 0])

    def test_of_one_that_is_done(self):
        program = program_of()
        self.assertIsNone(row_at(program, begun(program, go()), 0))


class TestWaits(unittest.TestCase):
    def test_at_within(self):
        program = program_of(("within", A, (SAY,)))
        scene = begun(program, go(2))
        self.assertEqual(waits(program, scene, 1), ())
        scene, _ = walked(program, go(2), ((0, 0),))
        self.assertEqual(waits(program, scene, 1), (("a", 0),))
        self.assertEqual(waits(program, scene, 0), ())

    def test_at_within_for_a_lock_it_holds_itself(self):
        program = program_of(("within", A, (("within", A, ()),)))
        scene, _ = walked(program, go(), ((0, 0),))
        self.assertEqual(waits(program, scene, 0), (("a", 0),))

    def test_at_all(self):
        others = (("do", ("p",), (("within", ("c", ("p", 0)), (SAY,)),)), )
        locks = (("c", ("", 9)), ("a", ("", 0)), ("c", ("", -9)), ("b", ("", 0)))
        program = program_of(("within", A, (("all", locks, ()),)), others=others)
        town = (("do", (9,)), ("go", ()), ("do", (-9,)), ("do", (0,)))
        scene, _ = walked(program, town, ((3, 0), (1, 0)))
        self.assertEqual(waits(program, scene, 1), (("a", 0),))
        scene, _ = walked(program, town, ((0, 0), (1, 0), (2, 0), (3, 0)))
        self.assertEqual(waits(program, scene, 1), (("a", 0), ("c", -9), ("c", 9)))
        self.assertEqual(waits(program=program, scene=scene, hand=1), (("a", 0), ("c", -9), ("c", 9)))

    def test_one_lock_told_twice_is_told_once(self):
        row = ("all", (("a", ("p", 0)), ("a", ("q", 0)), ("a", ("", 4))), ())
        program = (NAMES, (("go", ("p", "q"), (row,)),))
        scene, _ = walked(program, (("go", (4, 4)), ("go", (3, 4))), ((0, 0),))
        self.assertEqual(waits(program, scene, 1), (("a", 4),))

    def test_by_the_numbers_of_the_inmost_frame(self):
        program = (NAMES, (("go", ("p",), (("call", "do", (("p", 5),)),)),
                           ("do", ("p",), (("within", ("a", ("p", 1)), (SAY,)),))))
        town = (("go", (0,)), ("do", (5,)))
        scene, _ = walked(program, town, ((0, 0), (1, 0)))
        self.assertEqual(waits(program, scene, 0), (("a", 6),))

    def test_nothing_elsewhere(self):
        others = (("do", (), (SAY,)),)
        rows = (SAY, ("call", "do", ()), ("ask", A, (SAY,), (SAY,)), ("by", ("", 0), ("", 0), (), (SAY,), ()),
                ("either", (SAY,), ()), ("again", (SAY,)))
        for row in rows:
            program = program_of(("within", A, (row,)), others=others)
            scene, _ = walked(program, go(2), ((0, 0),))
            self.assertEqual(waits(program, scene, 0), (), row)

    def test_nothing_at_an_end_or_done(self):
        for row in (("within", A, ()), ("all", (A, B), ()), ("ask", A, (), ())):
            program = program_of(row)
            scene, _ = walked(program, go(), ((0, 0),))
            self.assertEqual(waits(program, scene, 0), ())
            scene, _ = walked(program, go(), ((0, 0), (0, 0)))
            self.assertEqual(waits(program, scene, 0), ())

    def test_nothing_at_ask_of_a_held_lock(self):
        others = (("do", (), (("ask", A, (SAY,), ()),)),)
        program = program_of(("within", A, ()), others=others)
        scene, _ = walked(program, (("go", ()), ("do", ())), ((0, 0),))
        self.assertEqual(waits(program, scene, 1), ())


if __name__ == "__main__":
    unittest.main()
