"""Points 20 and 3 (d): hands that never step again."""

import copy
import unittest

from neverstuck.losing import lost
from neverstuck.rings import rings
from neverstuck.scenes import begun, waits
from neverstuck.steps import moves, stepped, walked
from tests.helpers import A, B, NAMES, SAY, crowded_program, go, program_of, random_town, scenes_from, seeded

TAKE = ("within", A, ())
ITSELF = ("within", B, (("within", B, ()),))
FORKS = (NAMES, (
    ("go", ("p", "q"), (("within", ("a", ("p", 0)), (("within", ("a", ("q", 0)), ()),)),)),
    ("on", (), (("again", (SAY,)),)),
))


class TestLost(unittest.TestCase):
    def check(self, program, scene, told):
        many = len(scenes_from(program, scene, 5000))
        for most in (many, many + 1, 10 * many):
            self.assertEqual(lost(program, scene, most), told)
        for most in (many - 1, 0):
            self.assertIsNone(lost(program, scene, most))

    def scene(self, program, town, *hands):
        return walked(program, town, tuple((hand, 0) for hand in hands))[0]

    def test_none(self):
        program = program_of(SAY, TAKE)
        self.check(program, begun(program, go(3)), ())

    def test_done_hands_are_never_told(self):
        self.check(program_of(), begun(program_of(), go(3)), ())
        program = (NAMES, (("go", (), ()), ("do", (), (ITSELF,))))
        town = (("go", ()), ("do", ()), ("go", ()))
        self.check(program, self.scene(program, town, 1), (1,))

    def test_of_one_that_waits_for_what_it_holds_itself(self):
        program = program_of(ITSELF)
        self.check(program, self.scene(program, go(), 0), (0,))
        self.check(program, begun(program, go()), ())

    def test_of_a_rings_hands(self):
        town = (("go", (1, 2)), ("go", (7, 8)), ("go", (2, 3)), ("go", (3, 1)))
        scene = self.scene(FORKS, town, 0, 2, 3)
        self.assertEqual(rings(FORKS, scene), (((0, ("a", 2)), (2, ("a", 3)), (3, ("a", 1))),))
        self.check(FORKS, scene, (0, 2, 3))

    def test_of_one_that_waits_for_a_hand_of_a_ring(self):
        town = (("go", (5, 1)), ("go", (1, 2)), ("go", (2, 1)))
        scene = self.scene(FORKS, town, 0, 1, 2)
        self.assertEqual(rings(FORKS, scene), (((1, ("a", 2)), (2, ("a", 1))),))
        self.check(FORKS, scene, (0, 1, 2))
        # One that has still to come there steps before that.
        self.check(FORKS, self.scene(FORKS, town, 1, 2), (1, 2))

    def test_of_one_that_waits_now_and_comes_in_later(self):
        program = program_of(("within", A, (SAY,)))
        scene = self.scene(program, go(2), 0)
        self.assertEqual(waits(program, scene, 1), (("a", 0),))
        self.check(program, scene, ())

    def test_of_one_that_steps_in_some_weaving_alone(self):
        program = program_of(("within", A, (("either", (ITSELF,), ()),)), others=(("do", (), (TAKE,)),))
        town = (("go", ()), ("do", ()))
        scene = self.scene(program, town, 0)
        self.assertEqual(waits(program, scene, 1), (("a", 0),))
        self.check(program, scene, ())
        # Once the first one has chosen to wait for itself, both are lost.
        self.check(program, self.scene(program, town, 0, 0, 0), (0, 1))
        self.check(program, walked(program, town, ((0, 0), (0, 1)))[0], ())

    def test_a_step_that_leads_nowhere_is_a_step(self):
        program = program_of(("within", A, (("again", ()),)), others=(("do", (), (ITSELF,)),))
        scene = self.scene(program, (("go", ()), ("do", ())), 0, 1)
        self.assertEqual(stepped(program, scene, (0, 1))[0], scene)
        self.check(program, scene, (1,))

    def test_beside_one_that_steps_for_ever(self):
        town = (("go", (1, 2)), ("on", ()), ("go", (2, 1)))
        scene = self.scene(FORKS, town, 0, 2)
        self.assertNotEqual(moves(FORKS, scene), ())
        self.check(FORKS, scene, (0, 2))

    def test_none_where_there_is_no_end(self):
        program = program_of(ITSELF, others=(("do", (), (("call", "do", ()),)),))
        scene = self.scene(program, (("go", ()), ("do", ())), 0)
        for most in (0, 1, 2, 100):
            self.assertIsNone(lost(program, scene, most))

    def test_who_is_asked_and_refused_isnt_lost(self):
        program = program_of(("within", A, (("ask", A, (), ()),)))
        self.check(program, self.scene(program, go(2), 0), ())

    def test_of_drawn_scenes(self):
        in_rings = others = 0
        for number in range(150):
            chance = seeded(number)
            program = crowded_program(chance)
            scene = begun(program, random_town(chance, program))
            for _ in range(12):
                found = scenes_from(program, scene, 150)
                if found is None:
                    self.assertIsNone(lost(program, scene, 150))
                else:
                    stepping = {hand for there in found for hand, choice in moves(program, there)}
                    right = tuple(hand for hand in range(len(scene)) if scene[hand][0] and hand not in stepping)
                    self.check(program, scene, right)
                    within = {hand for ring in rings(program, scene) for hand, lock in ring}
                    self.assertLessEqual(within, set(right))
                    in_rings += len(within)
                    others += len(set(right) - within)
                if not moves(program, scene):
                    break
                scene, _ = stepped(program, scene, chance.choice(moves(program, scene)))
        self.assertGreater(in_rings, 50)
        self.assertGreater(others, 20)

    def test_by_names_and_nothing_changed(self):
        program = program_of(ITSELF)
        scene = self.scene(program, go(2), 0)
        kept = copy.deepcopy((program, scene))
        told = lost(program=program, scene=scene, most=9)
        self.assertEqual(told, lost(program, scene, 9))
        self.assertEqual((program, scene), kept)
        self.assertIs(type(told), tuple)
        self.assertEqual(told, (0, 1))


if __name__ == "__main__":
    unittest.main()
