"""Points 14 to 17 and 3 (c): quiet hands, resting scenes and long steps."""

import copy
import unittest

from neverstuck.resting import long_steps, rests_of
from neverstuck.scenes import begun
from neverstuck.steps import moves, stepped, walked
from tests.helpers import (A, B, NAMES, SAY, crowded_program, go, program_of, random_program, random_town, rests,
                           scenes_from, seeded)

TAKE = ("within", A, ())
DONE = ((), ())


def at(*path, held=()):
    """A hand that stands there in the first deed."""
    return (((0, (), path),), held)


def begun_of(*rows, hands=1, others=()):
    program = program_of(*rows, others=others)
    return program, begun(program, go(hands))


class TestRestsOf(unittest.TestCase):
    def check(self, program, scene, many, told):
        """That so many scenes are come to, this one and the told ones among them."""
        for most in (many, many + 1, 10 * many):
            self.assertEqual(rests_of(program, scene, most), told)
        self.assertIsNone(rests_of(program, scene, many - 1))
        self.assertIsNone(rests_of(program, scene, 0))

    def test_of_a_scene_that_rests(self):
        for row in (TAKE, ("all", (A, B), ()), ("ask", A, (), ())):
            program, scene = begun_of(row, hands=2)
            self.check(program, scene, 1, (scene,))
            scene, _ = walked(program, go(2), ((0, 0),))
            self.assertEqual(scene[0][0][0][2], (0, 0, 0))
            self.check(program, scene, 1, (scene,))

    def test_of_a_scene_where_one_waits(self):
        program, _ = begun_of(("within", A, (TAKE,)), hands=2)
        scene, _ = walked(program, go(2), ((0, 0),))
        self.assertEqual(moves(program, scene), ())
        self.check(program, scene, 1, (scene,))

    def test_of_done_hands(self):
        program, scene = begun_of(hands=3)
        self.check(program, scene, 1, ((DONE,) * 3,))

    def test_at_an_end_behind_each_sort_of_block(self):
        for row in (("within", A, (SAY,)), ("all", (A, B), (SAY,)), ("ask", A, (SAY,), ())):
            program, _ = begun_of(row)
            scene, _ = walked(program, go(), ((0, 0),))
            held = scene[0][1]
            self.check(program, scene, 2, ((at(0, 0, 1, held=held),),))

    def test_of_say(self):
        program, scene = begun_of(SAY, SAY, TAKE, SAY)
        self.check(program, scene, 3, ((at(2),),))
        program, scene = begun_of(SAY)
        self.check(program, scene, 2, ((DONE,),))

    def test_of_call(self):
        program, scene = begun_of(SAY, ("call", "do", ()), others=(("do", (), (SAY, TAKE)),))
        self.check(program, scene, 4, (((((0, (), (1,)), (1, (), (1,))), ()),),))

    def test_of_by(self):
        row = ("by", ("p", 0), ("", 0), (TAKE,), (SAY,), (SAY, TAKE))
        program = (NAMES, (("go", ("p",), (row, TAKE)),))
        for number, many, path in ((-1, 2, (0, 0, 0)), (0, 3, (1,)), (1, 3, (0, 2, 1))):
            scene = begun(program, (("go", (number,)),))
            self.check(program, scene, many, (((((0, (number,), path),), ()),),))

    def test_of_either(self):
        program, scene = begun_of(("either", (TAKE,), (TAKE,)))
        self.check(program, scene, 3, ((at(0, 0, 0),), (at(0, 1, 0),)))

    def test_rising_not_as_they_are_come_to(self):
        program, scene = begun_of(("either", (SAY, SAY, TAKE), (TAKE,)))
        self.check(program, scene, 5, ((at(0, 0, 2),), (at(0, 1, 0),)))

    def test_each_once(self):
        program, scene = begun_of(("either", (SAY,), (SAY,)), ("either", (), ()), TAKE)
        self.check(program, scene, 5, ((at(2),),))

    def test_of_again_whose_lot_is_quiet(self):
        program, scene = begun_of(("again", (SAY, ("either", (), (SAY,)))), TAKE)
        self.check(program, scene, 5, ((at(1),),))
        program, scene = begun_of(("again", ()), TAKE)
        self.check(program, scene, 2, ((at(1),),))

    def test_of_again_whose_lot_rests(self):
        program, scene = begun_of(("again", (TAKE, SAY)), TAKE)
        self.check(program, scene, 3, ((at(0, 0, 0),), (at(1),)))

    def test_of_again_within_again(self):
        program, scene = begun_of(("again", (("again", (SAY,)),)), TAKE)
        self.check(program, scene, 4, ((at(1),),))

    def test_of_several_hands(self):
        program, scene = begun_of(SAY, SAY, TAKE, hands=2)
        self.check(program, scene, 9, ((at(2), at(2)),))
        program, scene = begun_of(("either", (TAKE,), ()), hands=3)
        told = [(one, two, three) for one in (DONE, at(0, 0, 0)) for two in (DONE, at(0, 0, 0))
                for three in (DONE, at(0, 0, 0))]
        self.check(program, scene, 27, tuple(told))

    def test_others_that_rest_dont_step(self):
        program, _ = begun_of(TAKE, SAY, TAKE, hands=2)
        scene, _ = walked(program, go(2), ((1, 0), (1, 0)))
        self.assertEqual(moves(program, scene), ((0, 0), (1, 0)))
        self.check(program, scene, 2, ((at(0), at(2)),))

    def test_none_where_there_is_no_end(self):
        program, scene = begun_of(("call", "go", ()))
        for most in (0, 1, 7, 300):
            self.assertIsNone(rests_of(program, scene, most))
        program, scene = begun_of(("either", (("call", "go", ()),), (TAKE,)))
        self.assertIsNone(rests_of(program, scene, 300))

    def test_of_drawn_scenes(self):
        told = 0
        for number in range(200):
            chance = seeded(number)
            program = random_program(chance)
            scene = begun(program, random_town(chance, program))
            for _ in range(6):
                some = scenes_from(program, scene, 60, quiet_alone=True)
                if some is None:
                    self.assertIsNone(rests_of(program, scene, 60))
                else:
                    right = tuple(sorted(one for one in some if rests(program, one)))
                    self.check(program, scene, len(some), right)
                    told += len(some) > 3
                able = moves(program, scene)
                if not able:
                    break
                scene, _ = stepped(program, scene, chance.choice(able))
        self.assertGreater(told, 100)

    def test_by_names_and_nothing_changed(self):
        program, scene = begun_of(("either", (SAY, TAKE), (TAKE,)))
        kept = copy.deepcopy((program, scene))
        told = rests_of(program=program, scene=scene, most=9)
        self.assertEqual(told, rests_of(program, scene, 9))
        self.assertEqual((program, scene), kept)
        self.assertIs(type(told), tuple)


class TestLongSteps(unittest.TestCase):
    def test_without_a_move(self):
        program, scene = begun_of(hands=2)
        self.assertEqual(long_steps(program, scene, 1), ())
        program, _ = begun_of(("within", A, (TAKE,)))
        scene, _ = walked(program, go(), ((0, 0),))
        self.assertEqual(long_steps(program, scene, 1), ())
        self.assertEqual(long_steps(program, scene, 0), ())

    def test_of_one_move(self):
        program, scene = begun_of(("within", A, (SAY,)), SAY)
        inner = (at(0, 0, 1, held=((("a", 0),),)),)
        self.assertEqual(long_steps(program, scene, 2), (inner,))
        self.assertEqual(long_steps(program, inner, 2), ((DONE,),))
        self.assertIsNone(long_steps(program, scene, 1))
        self.assertIsNone(long_steps(program, inner, 1))

    def test_of_several_moves(self):
        rows = (("within", ("a", ("p", 0)), (("either", (("ask", B, (), ()),), ()),)),)
        program = (NAMES, (("go", ("p",), rows),))
        town = (("go", (1,)), ("go", (2,)))
        scene = begun(program, town)

        def inside(number, path):
            return (((0, (number,), path),), ((("a", number),),))

        first, second = scene
        right = ((first, inside(2, (0, 0, 0, 0, 0))), (first, inside(2, (0, 0, 1))),
                 (inside(1, (0, 0, 0, 0, 0)), second), (inside(1, (0, 0, 1)), second))
        self.assertEqual(long_steps(program, scene, 3), right)
        self.assertIsNone(long_steps(program, scene, 2))

    def test_most_counts_for_each_move_by_itself(self):
        program, scene = begun_of(("ask", A, (SAY,), (SAY,)), hands=4)
        self.assertEqual(len(long_steps(program, scene, 2)), 4)

    def test_none_where_one_is(self):
        others = (("do", (), (("within", B, (SAY, SAY)),)), ("on", (), (("within", A, (("call", "be", ()),)),)),
                  ("be", (), (("call", "be", ()),)))
        program = program_of(TAKE, others=others)
        scene = begun(program, (("go", ()), ("do", ())))
        self.assertEqual(len(long_steps(program, scene, 3)), 2)
        for most in (0, 1, 2):
            self.assertIsNone(long_steps(program, scene, most))
        for town in ((("do", ()), ("on", ())), (("on", ()), ("do", ()))):
            self.assertIsNone(long_steps(program, begun(program, town), 300))

    def test_of_drawn_scenes(self):
        checked = 0
        for number in range(150):
            chance = seeded(number)
            program = random_program(chance)
            some = rests_of(program, begun(program, random_town(chance, program)), 50)
            while some and checked < 10000:
                scene = chance.choice(some)
                right = set()
                for move in moves(program, scene):
                    found = scenes_from(program, stepped(program, scene, move)[0], 50, quiet_alone=True)
                    right = None if found is None or right is None else right | found
                some = long_steps(program, scene, 50)
                if right is None:
                    self.assertIsNone(some)
                else:
                    self.assertEqual(some, tuple(sorted(one for one in right if rests(program, one))))
                    checked += 1
                if chance.randint(1, 8) == 1:
                    break
        self.assertGreater(checked, 150)

    def test_by_names_and_nothing_changed(self):
        program, scene = begun_of(("within", A, (SAY,)))
        kept = copy.deepcopy((program, scene))
        told = long_steps(program=program, scene=scene, most=9)
        self.assertEqual(told, long_steps(program, scene, 9))
        self.assertEqual((program, scene), kept)
        self.assertIs(type(told), tuple)


class TestTheWhole(unittest.TestCase):
    """By long steps alone the same resting scenes come."""

    def by_long_steps(self, program, town):
        seen = set(rests_of(program, begun(program, town), 1000))
        ahead = sorted(seen)
        while ahead:
            for scene in long_steps(program, ahead.pop(), 1000):
                if scene not in seen:
                    seen.add(scene)
                    ahead.append(scene)
        return seen

    def check(self, program, town, limit=1000):
        found = scenes_from(program, begun(program, town), limit)
        if found is None:
            return False
        right = {scene for scene in found if rests(program, scene)}
        told = self.by_long_steps(program, town)
        self.assertEqual(told, right)
        stuck = {scene for scene in found if not moves(program, scene)}
        self.assertLessEqual(stuck, told)
        return len(right) > 3

    def test_of_small_towns(self):
        eat = ("within", ("a", ("p", 0)), (SAY, ("within", ("a", ("q", 0)), (SAY,)), SAY))
        program = (NAMES, (("go", ("p", "q"), (SAY, eat, ("either", (), (SAY,)))),))
        self.assertTrue(self.check(program, (("go", (1, 2)), ("go", (2, 1)))))
        self.assertTrue(self.check(program, (("go", (1, 2)), ("go", (2, 3)), ("go", (3, 1))), 5000))
        program = (NAMES, (("go", ("p", "q"), (("again", (eat, SAY)),)),))
        self.assertTrue(self.check(program, (("go", (1, 2)), ("go", (2, 1)))))

    def test_of_drawn_programs(self):
        many = 0
        for number in range(150):
            chance = seeded(number)
            program = random_program(chance)
            many += self.check(program, random_town(chance, program), 300)
        self.assertGreater(many, 15)

    def test_of_drawn_programs_of_few_locks(self):
        many = 0
        for number in range(150):
            chance = seeded(number)
            program = crowded_program(chance)
            many += self.check(program, random_town(chance, program), 500)
        self.assertGreater(many, 50)


if __name__ == "__main__":
    unittest.main()
