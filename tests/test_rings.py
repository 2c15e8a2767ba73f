"""Points 20 and 3 (d): rings of hands that wait for one another."""

import copy
import itertools
import unittest

from neverstuck.programs import rows_of
from neverstuck.rings import rings, shows_ring
from neverstuck.scenes import begun, held_by, row_at, waits
from neverstuck.steps import moves, stepped, walked
from tests.helpers import (A, B, NAMES, SAY, anything, crowded_program, go, of_other_kinds, places, program_of,
                           random_town, replaced, scenes_from, seeded)

FORKS = (NAMES, (("go", ("p", "q"), (("within", ("a", ("p", 0)), (("within", ("a", ("q", 0)), ()),)),)),))


def around_the_table(many):
    """Hands of which each holds its fork and waits for the next one's."""
    town = tuple(("go", (hand, (hand + 1) % many)) for hand in range(many))
    scene, _ = walked(FORKS, town, tuple((hand, 0) for hand in range(many)))
    return FORKS, scene


def tangle():
    """Three hands, of which each holds two locks and waits for all that the others hold."""
    def hold(first, others):
        return ("all", tuple(("a", ("", number)) for number in first),
                (("all", tuple(("a", ("", number)) for number in others), ()),))

    program = (NAMES, (("go", (), (hold((0, 1), (2, 3, 4, 5)),)), ("do", (), (hold((2, 3), (4, 0)),)),
                       ("be", (), (hold((4, 5), (1, 3)),))))
    scene, _ = walked(program, (("go", ()), ("do", ()), ("be", ())), ((0, 0), (1, 0), (2, 0)))
    return program, scene


def rings_by_trying(program, scene):
    """All rings, by trying each order of each hands with each locks."""
    found = []
    for many in range(1, len(scene) + 1):
        for hands in itertools.permutations(range(len(scene)), many):
            for locks in itertools.product(*[waits(program, scene, hand) for hand in hands]):
                holders = tuple(held_by(scene, lock) for lock in locks)
                if hands[0] == min(hands) and holders == hands[1:] + hands[:1]:
                    found.append(tuple(zip(hands, locks)))
    return tuple(sorted(found))


class TestRings(unittest.TestCase):
    def check(self, program, scene, told):
        self.assertEqual(rings(program, scene), told)
        self.assertEqual(rings_by_trying(program, scene), told)
        for ring in told:
            self.assertIs(shows_ring(program, scene, ring), True)

    def test_none(self):
        program = program_of(("within", A, (("within", B, ()),)))
        self.check(program, begun(program, go(2)), ())
        scene, _ = walked(program, go(2), ((0, 0),))
        self.assertEqual(waits(program, scene, 1), (("a", 0),))
        self.check(program, scene, ())
        self.check(program_of(), begun(program_of(), go()), ())

    def test_of_one_hand_that_waits_for_what_it_holds_itself(self):
        program = program_of(("within", A, (("within", A, ()),)))
        for hand in range(3):
            scene, _ = walked(program, go(3), ((hand, 0),))
            self.check(program, scene, (((hand, ("a", 0)),),))

    def test_of_one_hand_that_waits_for_several_it_holds_itself(self):
        program = program_of(("within", B, (("within", A, (("all", (A, ("c", ("", 0)), B), ()),)),)))
        scene, _ = walked(program, go(), ((0, 0), (0, 0)))
        self.check(program, scene, (((0, ("a", 0)),), ((0, ("b", 0)),)))

    def test_of_two_and_more_hands(self):
        for many in range(2, 7):
            program, scene = around_the_table(many)
            self.check(program, scene, (tuple((hand, ("a", (hand + 1) % many)) for hand in range(many)),))

    def test_the_first_is_the_least_whoever_came_first(self):
        town = (("go", (1, 2)), ("go", (3, 1)), ("go", (2, 3)))
        for order in itertools.permutations(range(3)):
            scene, _ = walked(FORKS, town, tuple((hand, 0) for hand in order))
            self.check(FORKS, scene, (((0, ("a", 2)), (2, ("a", 3)), (1, ("a", 1))),))

    def test_beside_hands_that_are_in_none(self):
        town = (("go", (1, 5)), ("go", (2, 3)), ("go", (4, 2)), ("go", (3, 2)))
        scene, _ = walked(FORKS, town, tuple((hand, 0) for hand in range(4)))
        # The third waits for the second, which is in a ring, but nobody waits for the third.
        self.check(FORKS, scene, (((1, ("a", 3)), (3, ("a", 2))),))

    def test_two_rings_apart(self):
        town = (("go", (1, 2)), ("go", (3, 4)), ("go", (2, 1)), ("go", (4, 3)))
        scene, _ = walked(FORKS, town, tuple((hand, 0) for hand in range(4)))
        self.check(FORKS, scene, (((0, ("a", 2)), (2, ("a", 1))), ((1, ("a", 4)), (3, ("a", 3)))))

    def test_of_hands_that_wait_for_several_locks_by_an_all(self):
        program, scene = tangle()
        self.assertEqual(moves(program, scene), ())
        self.check(program, scene, (
            ((0, ("a", 2)), (1, ("a", 0))), ((0, ("a", 2)), (1, ("a", 4)), (2, ("a", 1))),
            ((0, ("a", 3)), (1, ("a", 0))), ((0, ("a", 3)), (1, ("a", 4)), (2, ("a", 1))),
            ((0, ("a", 4)), (2, ("a", 1))), ((0, ("a", 4)), (2, ("a", 3)), (1, ("a", 0))),
            ((0, ("a", 5)), (2, ("a", 1))), ((0, ("a", 5)), (2, ("a", 3)), (1, ("a", 0))),
            ((1, ("a", 4)), (2, ("a", 3))),
        ))

    def test_who_is_asked_and_refused_is_in_none(self):
        program = program_of(("within", A, (("ask", A, (), (SAY,)),)))
        scene, _ = walked(program, go(), ((0, 0),))
        self.check(program, scene, ())
        others = (("do", (), (("within", B, (("ask", A, (), ()),)),)),)
        program = program_of(("within", A, (("within", B, ()),)), others=others)
        scene, _ = walked(program, (("go", ()), ("do", ())), ((0, 0), (1, 0)))
        self.assertEqual(waits(program, scene, 0), (("b", 0),))
        self.check(program, scene, ())

    def test_locks_taken_by_ask_count_as_held(self):
        others = (("do", (), (("ask", B, (("within", A, ()),), ()),)),)
        program = program_of(("within", A, (("within", B, ()),)), others=others)
        scene, _ = walked(program, (("go", ()), ("do", ())), ((0, 0), (1, 0)))
        self.check(program, scene, (((0, ("b", 0)), (1, ("a", 0))),))

    def test_by_names_and_nothing_changed(self):
        program, scene = tangle()
        kept = copy.deepcopy((program, scene))
        told = rings(program=program, scene=scene)
        self.assertEqual(told, rings(program, scene))
        self.assertEqual((program, scene), kept)
        self.assertTrue(all(type(thing) is tuple for thing in (told, told[0], told[0][0], told[0][0][1])))

    def test_in_scenes_of_drawn_programs(self):
        sizes = set()
        for number in range(600):
            chance = seeded(number)
            program = crowded_program(chance)
            town = tuple(((chance.choice(("go", "do", "be"))), ()) for _ in range(chance.randint(2, 4)))
            scene = begun(program, town)
            for _ in range(25):
                told = rings(program, scene)
                self.check(program, scene, told)
                sizes |= {len(ring) for ring in told}
                if not moves(program, scene):
                    break
                scene, _ = stepped(program, scene, chance.choice(moves(program, scene)))
        self.assertLessEqual({1, 2, 3}, sizes)


class TestTheWhole(unittest.TestCase):
    def test_in_all_scenes_of_drawn_towns(self):
        stuck = with_ring = 0
        for number in range(120):
            chance = seeded(number)
            program = crowded_program(chance)
            sorts = [row[0] for deed, row in rows_of(program)]
            town = random_town(chance, program)
            for scene in scenes_from(program, begun(program, town), 150) or ():
                told = rings(program, scene)
                if not moves(program, scene) and any(frames for frames, held in scene):
                    self.assertNotEqual(told, ())
                    stuck += 1
                within = {hand for ring in told for hand, lock in ring}
                with_ring += len(within) > 0
                self.assertEqual({hand for hand in within if sorts[row_at(program, scene, hand)] == "ask"}, set())
                for move in moves(program, scene):
                    self.assertNotIn(move[0], within)
                    # So it stays: each ring is still there behind whatever move.
                    self.assertLessEqual(set(told), set(rings(program, stepped(program, scene, move)[0])))
        self.assertGreater(stuck, 20)
        self.assertGreater(with_ring, 50)


class TestShowsRing(unittest.TestCase):
    def right(self, program, scene, thing):
        self.assertIs(shows_ring(program, scene, thing), True)

    def wrong(self, program, scene, thing):
        self.assertIs(shows_ring(program, scene, thing), False)

    def test_begun_at_another_hand(self):
        for program, scene in (tangle(), around_the_table(2), around_the_table(4)):
            for ring in rings(program, scene):
                self.right(program, scene, ring)
                for place in range(1, len(ring)):
                    self.wrong(program, scene, ring[place:] + ring[:place])

    def test_a_hand_twice(self):
        program = program_of(("within", A, (("within", A, ()),)))
        scene, _ = walked(program, go(), ((0, 0),))
        self.right(program, scene, ((0, ("a", 0)),))
        self.wrong(program, scene, ((0, ("a", 0)), (0, ("a", 0))))
        for program, scene in (tangle(), around_the_table(3)):
            for ring in rings(program, scene):
                self.wrong(program, scene, ring + ring)
        program, scene = tangle()
        self.wrong(program, scene, ((0, ("a", 2)), (1, ("a", 0)), (0, ("a", 4)), (2, ("a", 1))))

    def test_none_and_a_part_of_one(self):
        program, scene = around_the_table(3)
        ring = rings(program, scene)[0]
        self.wrong(program, scene, ())
        for place in range(3):
            self.wrong(program, scene, ring[:place] + ring[place + 1:])
        self.wrong(program, scene, ring[::-1])

    def test_a_lock_that_isnt_waited_for(self):
        program, scene = around_the_table(2)
        self.right(program, scene, ((0, ("a", 1)), (1, ("a", 0))))
        for lock in (("a", 0), ("a", 2), ("b", 1), ("", 1), ("a", -1), ("a", 10 ** 30)):
            self.wrong(program, scene, ((0, lock), (1, ("a", 0))))
        # It holds the lock, but nobody waits: it stands at the inner row of another.
        scene, _ = walked(program, (("go", (0, 1)), ("go", (1, 2))), ((0, 0), (1, 0)))
        self.wrong(program, scene, ((0, ("a", 1)), (1, ("a", 0))))

    def test_a_lock_held_by_another_hand(self):
        program, scene = tangle()
        self.right(program, scene, ((0, ("a", 4)), (2, ("a", 1))))
        self.wrong(program, scene, ((0, ("a", 2)), (2, ("a", 1))))
        self.wrong(program, scene, ((0, ("a", 4)), (2, ("a", 3))))
        self.wrong(program, scene, ((0, ("a", 4)), (1, ("a", 0))))

    def test_who_is_asked_and_refused(self):
        program = program_of(("within", A, (("ask", A, (), (SAY,)),)))
        scene, _ = walked(program, go(), ((0, 0),))
        self.wrong(program, scene, ((0, ("a", 0)),))

    def test_done_hands_and_hands_that_arent_there(self):
        program, scene = around_the_table(2)
        for hand in (2, 3, -1, -2, 10 ** 30):
            self.wrong(program, scene, ((0, ("a", 1)), (hand, ("a", 0))))
            self.wrong(program, scene, ((hand, ("a", 1)),))
        done = begun(program_of(), go())
        self.wrong(program_of(), done, ((0, ("a", 0)),))

    def test_each_with_one_thing_otherwise(self):
        program, scene = tangle()
        told = rings(program, scene)
        for ring in told:
            for place, (hand, lock) in enumerate(ring):
                for other in range(-1, 4):
                    for number in range(-1, 7):
                        thing = replaced(ring, (place,), (other, ("a", number)))
                        self.assertIs(shows_ring(program, scene, thing), thing in told)

    def test_things_of_any_kind_in_any_place(self):
        for program, scene in (around_the_table(2), tangle()):
            ring = rings(program, scene)[0]
            for path in places(ring):
                for thing in anything():
                    self.wrong(program, scene, replaced(ring, path, thing))
            for thing in anything():
                self.wrong(program, scene, ring + (thing,))
                self.wrong(program, scene, (thing,) + ring)
            for thing in of_other_kinds(ring) + [rings(program, scene), ring[0], (ring[0] + (0,),) + ring[1:],
                                                 tuple((hand, lock + (0,)) for hand, lock in ring)]:
                self.wrong(program, scene, thing)

    def test_by_names_and_again(self):
        program, scene = around_the_table(2)
        for _ in range(2):
            self.assertIs(shows_ring(program=program, scene=scene, thing=((0, ("a", 1)), (1, ("a", 0)))), True)


if __name__ == "__main__":
    unittest.main()
