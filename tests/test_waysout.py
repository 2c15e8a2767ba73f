"""Point 28: ways out, and the look at them."""

import copy
import unittest

from neverstuck.programs import comes_to_itself
from neverstuck.scenes import begun
from neverstuck.steps import moves, stepped, walked
from neverstuck.stuckways import stuck_way
from neverstuck.waysout import shows_out, way_out
from tests.helpers import (A, B, SAY, anything, at_place, crowded_program, go, nested, of_other_kinds, places,
                           program_of, random_program, random_town, replaced, seeded)


def way_by_moves(program, scene):
    """The way out, each time by the first one of moves of the least hand."""
    weaving = []
    while moves(program, scene):
        move = min(moves(program, scene))
        weaving.append(move)
        scene, _ = stepped(program, scene, move)
    return tuple(weaving), all(frames == () for frames, held in scene)


def drawn_scenes():
    """Scenes of drawn programs in which no deed comes to itself, begun and later."""
    for seed in range(250):
        chance = seeded(seed)
        program = random_program(chance) if seed % 2 else crowded_program(chance)
        if comes_to_itself(program):
            continue
        scene = begun(program, random_town(chance, program))
        yield chance, program, scene
        for _ in range(chance.randint(1, 12)):
            if moves(program, scene):
                scene, _ = stepped(program, scene, chance.choice(moves(program, scene)))
        yield chance, program, scene


class TestWayOut(unittest.TestCase):
    def check(self, program, scene, told, right=True):
        self.assertEqual(way_out(program, scene), told)
        self.assertIs(shows_out(program, scene, told), right)

    def test_nothing_where_no_move_is(self):
        self.check(program_of(), begun(program_of(), go(2)), ())
        program = program_of(("within", A, (("within", B, ()),)), ("within", B, ()),
                             others=[("do", (), (("within", B, (("within", A, ()),)),))])
        scene, _ = walked(program, (("go", ()), ("do", ())), ((0, 0), (1, 0)))
        self.check(program, scene, (), False)

    def test_one_hand_ahead_of_the_other(self):
        program = program_of(SAY, SAY)
        self.check(program, begun(program, go(2)), ((0, 0), (0, 0), (1, 0), (1, 0)))

    def test_of_either_its_first_lot_and_of_again_none(self):
        program = program_of(("either", (SAY,), (SAY, SAY)), ("again", (SAY,)))
        self.check(program, begun(program, go()), ((0, 0),) * 3)
        scene, _ = walked(program, go(), ((0, 1),))
        self.check(program, scene, ((0, 0),) * 3)
        scene, _ = walked(program, go(), ((0, 0), (0, 0), (0, 1)))
        self.check(program, scene, ((0, 0),) * 2)

    def test_the_least_hand_that_can_step(self):
        program = program_of(SAY, ("within", A, (SAY,)))
        scene, _ = walked(program, go(2), ((1, 0), (1, 0)))
        self.check(program, scene, ((0, 0), (1, 0), (1, 0), (0, 0), (0, 0), (0, 0)))
        scene, _ = walked(program, go(3), ((2, 0), (2, 0), (0, 0), (1, 0)))
        self.check(program, scene, ((2, 0), (2, 0)) + ((0, 0),) * 3 + ((1, 0),) * 3)

    def test_through_calls_within_calls(self):
        others = [("do", (), (("call", "be", ()),) * 12), ("be", (), (("call", "so", ()),) * 12),
                  ("so", (), (("within", A, ()),) * 2)]
        program = program_of(("call", "do", ()), others=others)
        self.check(program, begun(program, go(1)), ((0, 0),) * (1 + 12 + 144 + 144 * 4))

    def test_drawn_scenes(self):
        met = set()
        for _, program, scene in drawn_scenes():
            told, done = way_by_moves(program, scene)
            self.check(program, scene, told, done)
            met.add(done)
        self.assertEqual(met, {True, False})

    def test_by_names_and_nothing_changed(self):
        program = program_of(("within", A, (SAY,)))
        scene = begun(program, go(2))
        kept = copy.deepcopy((program, scene))
        told = way_out(program=program, scene=scene)
        self.assertEqual(told, way_out(program, scene))
        self.assertIs(shows_out(program=program, scene=scene, thing=told), True)
        self.assertEqual((program, scene), kept)
        self.assertTrue(all(type(at_place(told, path)) in (tuple, int) for path in places(told)))


class TestShowsOut(unittest.TestCase):
    program = program_of(("within", A, (SAY,)), ("again", (SAY,)))
    scene = begun(program, go(2))
    way = way_out(program, scene)

    def right(self, thing):
        self.assertIs(shows_out(self.program, self.scene, thing), True)

    def wrong(self, thing):
        self.assertIs(shows_out(self.program, self.scene, thing), False)

    def test_what_is_told_and_other_ways(self):
        self.right(self.way)
        self.right(((1, 0),) * 4 + ((0, 0),) * 4)
        self.right(((1, 0),) * 3 + ((0, 0),) * 3 + ((1, 1), (0, 1), (1, 0), (0, 0), (0, 0), (1, 0)))

    def test_cut_short_or_with_a_move_more(self):
        for many in range(len(self.way)):
            self.wrong(self.way[:many])
            self.wrong(self.way[:many] + self.way[many + 1:])
        for move in ((0, 0), (1, 0), (0, 1), (2, 0)):
            self.wrong(self.way + (move,))

    def test_a_move_that_cant_be(self):
        for at in range(len(self.way)):
            for move in ((-1, 0), (2, 0), (0, -1), (0, 2), (10 ** 30, 0), (0, 10 ** 30)):
                self.wrong(self.way[:at] + (move,) + self.way[at:])
                self.wrong(self.way[:at] + (move,) + self.way[at + 1:])
        self.wrong(((0, 0), (1, 0)) + self.way)

    def test_things_of_any_kind_in_any_place(self):
        for path in places(self.way):
            for thing in anything():
                self.wrong(replaced(self.way, path, thing))
        for thing in anything():
            self.wrong(self.way + (thing,))
            self.wrong((thing,) + self.way)
        for thing in of_other_kinds(self.way) + [(self.way,), None, "", nested(self.way, 50, lambda x: (x,))]:
            self.wrong(thing)

    def test_where_all_are_done(self):
        done, _ = walked(self.program, go(2), self.way)
        for thing, right in (((), True), (((0, 0),), False), ([], False), (None, False)):
            self.assertIs(shows_out(self.program, done, thing), right)

    def test_a_weaving_to_a_stuck_scene(self):
        program = program_of(("within", A, (("within", A, ()),)))
        word, weaving = stuck_way(program, go(), 10)
        self.assertEqual(word, "way")
        self.assertIs(shows_out(program, begun(program, go()), weaving), False)

    def test_of_a_program_in_which_a_deed_comes_to_itself(self):
        program = program_of(("either", (("call", "go", ()),), (SAY,)))
        scene = begun(program, go())
        self.assertIs(shows_out(program, scene, ((0, 0), (0, 0), (0, 1), (0, 0))), True)
        self.assertIs(shows_out(program, scene, ((0, 0), (0, 0), (0, 0))), False)

    def test_weavings_of_drawn_scenes(self):
        met = set()
        for chance, program, scene in drawn_scenes():
            here, weaving = scene, ()
            for _ in range(25):
                if moves(program, here):
                    move = chance.choice(moves(program, here))
                    here, _ = stepped(program, here, move)
                    weaving += (move,)
            done = all(frames == () for frames, held in here)
            self.assertIs(shows_out(program, scene, weaving), done)
            met.add((done, weaving == ()))
        self.assertEqual(met, {(True, True), (True, False), (False, True), (False, False)})


if __name__ == "__main__":
    unittest.main()
