"""Points 18, 19 and 3 (c): books, ways to stuck scenes, and the looks at them."""

import copy
import unittest

from neverstuck.booklooks import shows_book, shows_never, shows_stuck
from neverstuck.books import book, resting_book
from neverstuck.scenes import begun
from neverstuck.steps import moves, stepped, walked
from neverstuck.stuckways import stuck_way
from tests.helpers import (A, B, NAMES, SAY, Loud, anything, crowded_program, go, of_other_kinds, places, program_of,
                           random_program, random_town, replaced, rests, scenes_from, seeded)

OPEN = ("open", None)
NEVER = ("never", None)
DONE = ((), ())
TAKE = ("within", A, ())
ENDLESS = program_of(("call", "go", ()))
CROSS = (NAMES, (("go", (), (("within", A, (("within", B, ()),)),)), ("do", (), (("within", B, (TAKE,)),))))
CROSS_TOWN = (("go", ()), ("do", ()))
FORKS = (NAMES, (("go", ("p", "q"), (("within", ("a", ("p", 0)), (("within", ("a", ("q", 0)), ()),)),)),))


def at(*path, held=()):
    return (((0, (), path),), held)


def drawn(make, many, limit):
    """Programs and towns by chance, with all scenes to which weavings lead; None where there are more."""
    for number in range(many):
        chance = seeded(number)
        program = make(chance)
        town = random_town(chance, program)
        yield chance, program, town, scenes_from(program, begun(program, town), limit)


def is_stuck(program, scene):
    return not moves(program, scene) and scene != (DONE,) * len(scene)


class TestBook(unittest.TestCase):
    def check(self, program, town, scenes):
        many = len(scenes)
        for most in (many, many + 1, 1000 * many):
            self.assertEqual(book(program, town, most), ("all", tuple(scenes)))
        for most in {1, many // 2, many - 1} - {many, 0}:
            self.assertEqual(book(program, town, most), OPEN)

    def test_of_hands_that_are_done(self):
        self.check(program_of(), go(), ((DONE,),))
        self.check(program_of(), go(4), ((DONE,) * 4,))

    def test_of_one_hand(self):
        held = ((("a", 0),),)
        self.check(program_of(SAY, ("within", A, (SAY,))), go(),
                   ((at(0),), (at(1),), (at(1, 0, 0, held=held),), (at(1, 0, 1, held=held),), (DONE,)))

    def test_in_the_order_in_which_they_are_come_to(self):
        self.check(program_of(SAY, SAY), go(2), (
            (at(0), at(0)),
            (at(1), at(0)), (at(0), at(1)),
            (DONE, at(0)), (at(1), at(1)), (at(0), DONE),
            (DONE, at(1)), (at(1), DONE),
            (DONE, DONE),
        ))

    def test_choices_rise(self):
        row = ("either", (SAY,), ())
        self.check(program_of(row, ("again", (SAY,))), go(), (
            (at(0),), (at(0, 0, 0),), (at(1),), (DONE,), (at(1, 0, 0),)))

    def test_a_scene_met_again_is_told_once(self):
        self.check(program_of(("again", ())), go(), ((at(0),), (DONE,)))
        self.check(program_of(("again", (("again", ()),))), go(), ((at(0),), (DONE,), (at(0, 0, 0),)))
        self.check(program_of(("either", (), ()), SAY), go(), ((at(0),), (at(1),), (DONE,)))

    def test_open_where_there_is_no_end(self):
        for most in (1, 2, 50):
            self.assertEqual(book(ENDLESS, go(2), most), OPEN)
            program = program_of(("either", (("call", "go", ()),), (SAY,)))
            self.assertEqual(book(program, go(), most), OPEN)

    def test_of_drawn_programs(self):
        told = 0
        for make in (random_program, crowded_program):
            for chance, program, town, found in drawn(make, 100, 200):
                if found is None:
                    self.assertEqual(book(program, town, 200), OPEN)
                else:
                    scenes = self.come_to(program, town)
                    self.assertEqual(set(scenes), found)
                    self.check(program, town, scenes)
                    told += len(found) > 5
        self.assertGreater(told, 60)

    def come_to(self, program, town):
        scenes = [begun(program, town)]
        for scene in scenes:
            for move in moves(program, scene):
                there, _ = stepped(program, scene, move)
                if there not in scenes:
                    scenes.append(there)
        return scenes

    def test_by_names_and_nothing_changed(self):
        kept = copy.deepcopy((CROSS, CROSS_TOWN))
        told = book(program=CROSS, town=CROSS_TOWN, most=99)
        self.assertEqual(told, book(CROSS, CROSS_TOWN, 99))
        self.assertEqual((CROSS, CROSS_TOWN), kept)
        self.assertIs(type(told), tuple)
        self.assertIs(type(told[1]), tuple)


class TestRestingBook(unittest.TestCase):
    def test_rising(self):
        held = ((("a", 0),),)
        program = program_of(SAY, ("within", A, (SAY,)), SAY)
        right = ((DONE,), (at(1),), (at(1, 0, 1, held=held),))
        self.assertEqual(resting_book(program, go(), 3), ("all", right))
        self.assertEqual(resting_book(program, go(), 99), ("all", right))

    def test_open_where_there_are_more_than_most(self):
        program = program_of(TAKE)
        self.assertEqual(resting_book(program, go(), 3)[0], "all")
        self.assertEqual(len(resting_book(program, go(), 3)[1]), 3)
        self.assertEqual(resting_book(program, go(), 2), OPEN)
        self.assertEqual(resting_book(program, go(), 1), OPEN)
        self.assertEqual(resting_book(program_of(), go(), 1), ("all", ((DONE,),)))

    def test_open_by_the_way_to_the_first_ones(self):
        program = program_of(SAY, SAY, SAY)
        self.assertEqual(resting_book(program, go(), 4), ("all", ((DONE,),)))
        self.assertEqual(resting_book(program, go(), 3), OPEN)
        for most in (1, 2, 50):
            self.assertEqual(resting_book(ENDLESS, go(), most), OPEN)

    def test_open_by_a_long_step(self):
        program = program_of(("within", A, (SAY,) * 5))
        self.assertEqual(resting_book(program, go(), 6)[0], "all")
        self.assertEqual(len(resting_book(program, go(), 6)[1]), 3)
        self.assertEqual(resting_book(program, go(), 5), OPEN)
        program = program_of(("within", A, (("call", "go", ()),)))
        self.assertEqual(resting_book(program, go(), 2)[0], "all")
        program = program_of(("within", A, (("call", "do", ()),)), others=(("do", (), (("call", "do", ()),)),))
        self.assertEqual(resting_book(program, go(), 50), OPEN)

    def test_open_where_there_is_no_end_of_resting_ones(self):
        program = (NAMES, (("go", ("p",), (("within", ("a", ("p", 0)), (("call", "go", (("p", 1),)),)),)),))
        for most in (2, 3, 30):
            self.assertEqual(resting_book(program, (("go", (0,)),), most), OPEN)

    def test_all_where_book_is_open(self):
        # Most bounds the resting ones here, so it tells all of towns whose book is open.
        program = program_of(SAY, SAY, SAY, TAKE)
        many = len(scenes_from(program, begun(program, go(2)), 1000))
        self.assertEqual(book(program, go(2), many - 1), OPEN)
        self.assertEqual(resting_book(program, go(2), many - 1)[0], "all")

    def test_those_of_book_that_rest(self):
        told = 0
        for make in (random_program, crowded_program):
            for chance, program, town, found in drawn(make, 100, 300):
                if found is not None:
                    right = tuple(sorted(scene for scene in found if rests(program, scene)))
                    self.assertEqual(resting_book(program, town, len(found)), ("all", right))
                    self.assertEqual(resting_book(program, town, len(right) - 1), OPEN)
                    told += len(right) > 3
        self.assertGreater(told, 50)

    def test_by_names_and_nothing_changed(self):
        kept = copy.deepcopy((CROSS, CROSS_TOWN))
        told = resting_book(program=CROSS, town=CROSS_TOWN, most=99)
        self.assertEqual(told, resting_book(CROSS, CROSS_TOWN, 99))
        self.assertEqual((CROSS, CROSS_TOWN), kept)
        self.assertIs(type(told[1]), tuple)


class TestShowsBook(unittest.TestCase):
    program = program_of(("either", (SAY,), (SAY, SAY)), ("within", A, (SAY,)))

    def right(self, thing, program=None, town=go()):
        self.assertIs(shows_book(program or self.program, town, thing), True)

    def wrong(self, thing, program=None, town=go()):
        self.assertIs(shows_book(program or self.program, town, thing), False)

    def scenes(self, program=None, town=go()):
        return book(program or self.program, town, 2000)[1]

    def test_what_is_told(self):
        self.right(self.scenes())
        self.right(((DONE,),), program_of())
        self.right(self.scenes(CROSS, CROSS_TOWN), CROSS, CROSS_TOWN)

    def test_in_another_right_order(self):
        # begun, the other lot first, and deep ahead of wide
        a, b, c, d, e, f, g, h = self.scenes()
        self.assertEqual((b, c), ((at(0, 0, 0),), (at(0, 1, 0),)))
        self.right((a, c, b, d, e, f, g, h))
        self.right((a, b, d, f, g, h, c, e))
        self.right((a, c, e, d, f, g, h, b))

    def test_out_of_its_place(self):
        a, b, c, d, e, f, g, h = self.scenes()
        self.wrong((a, d, b, c, e, f, g, h))
        self.wrong((a, b, c, e, f, d, g, h))
        self.wrong((a, e, c, b, d, f, g, h))
        self.wrong((a, b, c, d, e, f, h, g))

    def test_begun_not_the_first(self):
        scenes = self.scenes()
        for place in range(1, len(scenes)):
            self.wrong(scenes[1:place + 1] + scenes[:1] + scenes[place + 1:])
        self.wrong(scenes[::-1])

    def test_a_scene_left_out(self):
        for program, town in ((self.program, go()), (CROSS, CROSS_TOWN), (program_of(), go(2))):
            scenes = self.scenes(program, town)
            for place in range(len(scenes)):
                self.wrong(scenes[:place] + scenes[place + 1:], program, town)
        self.wrong(())

    def test_a_scene_twice(self):
        scenes = self.scenes()
        for scene in scenes:
            for place in range(len(scenes) + 1):
                self.wrong(scenes[:place] + (scene,) + scenes[place:])

    def test_one_more_that_no_move_leads_to(self):
        scenes = self.scenes()
        for other in ((at(0, 1, 2),), (at(1, 0, 0),), (at(7),), (DONE, DONE), (), (at(0, held=((("a", 0),),)),),
                      ((((0, (5,), (0,)),), ()),), ((((1, (), (0,)),), ()),), at(0), ((at(0)[0] * 2, ()),)):
            for place in range(len(scenes) + 1):
                self.wrong(scenes[:place] + (other,) + scenes[place:])

    def test_of_a_scene_that_leads_to_itself(self):
        program = program_of(("again", ()))
        self.right(((at(0),), (DONE,)), program)
        self.wrong(((at(0),),), program)

    def test_of_another_town_or_program(self):
        self.wrong(self.scenes(), town=go(2))
        self.wrong(self.scenes(town=go(2)))
        self.wrong(self.scenes(), program_of(SAY))
        self.wrong(("all", self.scenes()))
        self.wrong(book(self.program, go(), 2000))
        self.wrong(OPEN)

    def test_of_endless_programs(self):
        scene = begun(ENDLESS, go())
        scenes = [scene]
        for _ in range(100):
            scene, _ = stepped(ENDLESS, scene, (0, 0))
            scenes.append(scene)
            self.wrong(tuple(scenes), ENDLESS)

    def test_things_of_other_kinds(self):
        locks = (("a", ("p", 0)), ("b", ("q", 0)))
        numbered = (NAMES, (("go", ("p", "q"), (("all", locks, ()),)),))
        for program, town in ((self.program, go()), (CROSS, CROSS_TOWN), (numbered, (("go", (0, 1)), ("go", (1, 0))))):
            scenes = self.scenes(program, town)
            self.right(scenes, program, town)
            for thing in of_other_kinds(scenes):
                self.wrong(thing, program, town)

    def test_things_of_any_kind_in_any_place(self):
        program = (NAMES, (("go", ("p",), (("within", ("a", ("p", 0)), ()),)),))
        town = (("go", (1,)),)
        scenes = self.scenes(program, town)
        self.right(scenes, program, town)
        for path in places(scenes):
            for thing in anything():
                self.wrong(replaced(scenes, path, thing), program, town)
        for thing in anything():
            self.wrong(scenes + (thing,), program, town)
            self.wrong((thing,) + scenes, program, town)
            self.wrong(thing, program_of())
            self.wrong((thing,), program_of())
            self.wrong(((thing,),), program_of())

    def test_each_number_otherwise(self):
        scenes = self.scenes(FORKS, (("go", (1, 2)), ("go", (2, 1))))
        chance = seeded(1)
        paths = [path for path in places(scenes) if len(path) > 4]
        for path in chance.sample(paths, 60):
            thing = scenes
            for place in path:
                thing = thing[place]
            if isinstance(thing, int):
                for other in (thing + 1, thing - 1, thing + 100):
                    self.wrong(replaced(scenes, path, other), FORKS, (("go", (1, 2)), ("go", (2, 1))))

    def test_of_drawn_programs(self):
        told = 0
        for chance, program, town, found in drawn(crowded_program, 80, 150):
            if found is None or len(found) < 4:
                continue
            told += 1
            self.right(self.scenes(program, town), program, town)
            order = self.some_order(chance, program, town)
            self.right(order, program, town)
            place = chance.randrange(len(order))
            self.wrong(order[:place] + order[place + 1:], program, town)
            self.wrong(order + order[place:place + 1], program, town)
            mixed = chance.sample(order, len(order))
            self.assertIs(shows_book(program, town, tuple(mixed)), self.is_in_order(program, town, mixed))
        self.assertGreater(told, 40)

    def some_order(self, chance, program, town):
        order, ahead = [], [begun(program, town)]
        while ahead:
            scene = ahead.pop(chance.randrange(len(ahead)))
            if scene not in order:
                order.append(scene)
                ahead.extend(stepped(program, scene, move)[0] for move in moves(program, scene))
        return tuple(order)

    def is_in_order(self, program, town, scenes):
        if scenes[0] != begun(program, town):
            return False
        for place in range(1, len(scenes)):
            ahead = [stepped(program, scene, move)[0] for scene in scenes[:place] for move in moves(program, scene)]
            if scenes[place] not in ahead:
                return False
        return True

    def test_by_names_and_again(self):
        scenes = self.scenes()
        for _ in range(2):
            self.assertIs(shows_book(program=self.program, town=go(), thing=scenes), True)


def first_by_trying(program, town, longest):
    """The first stuck weaving by size of at most so many moves, by walking each from the beginning."""
    ahead = [((), begun(program, town))]
    for _ in range(longest + 1):
        for weaving, scene in ahead:
            if is_stuck(program, scene):
                return weaving
        ahead = [(weaving + (move,), stepped(program, scene, move)[0]) for weaving, scene in ahead
                 for move in moves(program, scene)]
        if len(ahead) > 4000:
            return None
    return None


class TestStuckWay(unittest.TestCase):
    def test_a_way(self):
        self.assertEqual(stuck_way(CROSS, CROSS_TOWN, 99), ("way", ((0, 0), (1, 0))))
        self.assertEqual(stuck_way(FORKS, (("go", (1, 2)), ("go", (2, 3)), ("go", (3, 1))), 999),
                         ("way", ((0, 0), (1, 0), (2, 0))))

    def test_of_one_that_waits_for_what_it_holds_itself(self):
        self.assertEqual(stuck_way(program_of(("within", A, (TAKE,))), go(), 9), ("way", ((0, 0),)))
        self.assertEqual(stuck_way(program_of(SAY, ("all", (A, B), (TAKE,))), go(), 9), ("way", ((0, 0), (0, 0))))

    def test_the_shortest(self):
        # The first lot comes to be stuck late, the other one soon.
        program = program_of(("either", (SAY, ("within", A, (TAKE,))), (("within", B, (("within", B, ()),)),)))
        self.assertEqual(stuck_way(program, go(), 99), ("way", ((0, 1), (0, 0))))

    def test_of_the_shortest_the_first(self):
        inner = ("within", A, (TAKE,))
        program = program_of(("either", (SAY, inner), (SAY, inner)))
        self.assertEqual(stuck_way(program, go(), 99), ("way", ((0, 0), (0, 0), (0, 0))))
        program = program_of(("either", (inner,), (inner,)))
        self.assertEqual(stuck_way(program, go(2), 99), ("way", ((0, 0), (0, 0), (1, 0))))
        program = (NAMES, (("go", (), (("either", (SAY, SAY), (("within", A, (SAY, TAKE)),)),)), ("do", (), (TAKE,))))
        self.assertEqual(stuck_way(program, (("go", ()), ("do", ())), 99)[1],
                         first_by_trying(program, (("go", ()), ("do", ())), 6))

    def test_others_that_step_on_are_walked_to_their_end(self):
        program = (NAMES, (("go", (), (("within", A, (TAKE,)),)), ("do", (), (SAY,))))
        self.assertEqual(stuck_way(program, (("go", ()), ("do", ())), 99), ("way", ((0, 0), (1, 0))))
        self.assertEqual(stuck_way(program, (("do", ()), ("go", ())), 99), ("way", ((0, 0), (1, 0))))

    def test_never(self):
        self.assertEqual(stuck_way(program_of(), go(3), 1), NEVER)
        self.assertEqual(stuck_way(program_of(("within", A, (("within", B, ()),))), go(3), 999), NEVER)
        self.assertEqual(stuck_way(FORKS, (("go", (1, 2)), ("go", (2, 3)), ("go", (1, 3))), 999), NEVER)
        self.assertEqual(stuck_way(program_of(("within", A, (("ask", A, (), ()),))), go(2), 999), NEVER)

    def test_never_where_one_is_lost_but_another_steps_for_ever(self):
        program = (NAMES, (("go", (), (("within", A, (TAKE,)),)), ("do", (), (("again", (SAY,)),))))
        self.assertEqual(stuck_way(program, (("go", ()), ("do", ())), 99)[0], "way")
        program = (NAMES, (("go", (), (("within", A, (TAKE,)),)), ("do", (), (("call", "do", ()),))))
        self.assertEqual(stuck_way(program, (("go", ()), ("do", ())), 99), OPEN)

    def test_open_ahead_of_both(self):
        for program, town in ((CROSS, CROSS_TOWN), (program_of(TAKE), go(3)), (program_of(), go())):
            many = len(scenes_from(program, begun(program, town), 999))
            self.assertNotEqual(stuck_way(program, town, many), OPEN)
            self.assertEqual(stuck_way(program, town, many - 1), OPEN)
        stuck_soon = (NAMES, CROSS[1] + (("on", (), (("either", (("call", "on", ()),), ()),)),))
        self.assertEqual(stuck_way(stuck_soon, CROSS_TOWN + (("on", ()),), 200), OPEN)

    def test_of_drawn_programs(self):
        words = {"way": 0, "never": 0, "open": 0}
        for make in (random_program, crowded_program):
            for chance, program, town, found in drawn(make, 150, 300):
                told = stuck_way(program, town, 300)
                words[told[0]] += 1
                if found is None:
                    self.assertEqual(told, OPEN)
                elif not any(is_stuck(program, scene) for scene in found):
                    self.assertEqual(told, NEVER)
                else:
                    self.check_way(program, town, told)
        self.assertGreater(min(words.values()), 25)

    def check_way(self, program, town, told):
        word, weaving = told
        self.assertEqual(word, "way")
        self.assertTrue(is_stuck(program, walked(program, town, weaving)[0]))
        right = first_by_trying(program, town, len(weaving))
        if right is not None:
            self.assertEqual(weaving, right)

    def test_by_names_and_nothing_changed(self):
        kept = copy.deepcopy((CROSS, CROSS_TOWN))
        told = stuck_way(program=CROSS, town=CROSS_TOWN, most=99)
        self.assertEqual(told, stuck_way(CROSS, CROSS_TOWN, 99))
        self.assertEqual((CROSS, CROSS_TOWN), kept)
        self.assertIs(type(told[1]), tuple)


class TestShowsStuck(unittest.TestCase):
    def right(self, thing, program=CROSS, town=CROSS_TOWN):
        self.assertIs(shows_stuck(program, town, thing), True)

    def wrong(self, thing, program=CROSS, town=CROSS_TOWN):
        self.assertIs(shows_stuck(program, town, thing), False)

    def test_what_is_told_and_others(self):
        self.right(((0, 0), (1, 0)))
        self.right(((1, 0), (0, 0)))
        program = program_of(("again", ()), ("within", A, (TAKE,)))
        self.right(((0, 0), (0, 0)), program, go())
        self.right(((0, 1),) * 500 + ((0, 0), (0, 0)), program, go())

    def test_a_weaving_that_cant_be(self):
        for thing in (((0, 0), (1, 0), (0, 0)), ((0, 0), (1, 1)), ((0, 0), (2, 0)), ((0, 0), (-1, 0)),
                      ((0, 0), (1, 0), (1, 0)), ((0, 0), (0, 0), (1, 0))):
            self.wrong(thing)

    def test_one_that_leads_to_no_stuck_scene(self):
        self.wrong(())
        self.wrong(((0, 0),))
        self.wrong(((0, 0), (0, 0)))
        done = ((0, 0),) * 4 + ((1, 0),) * 4
        self.assertEqual(walked(CROSS, CROSS_TOWN, done)[0], (DONE, DONE))
        self.wrong(done)
        self.wrong((), program_of(), go(2))

    def test_one_where_another_may_still_step(self):
        program = (NAMES, CROSS[1] + (("on", (), (SAY,)),))
        town = CROSS_TOWN + (("on", ()),)
        self.wrong(((0, 0), (1, 0)), program, town)
        self.right(((0, 0), (1, 0), (2, 0)), program, town)

    def test_things_of_any_kind(self):
        right = ((0, 0), (1, 0))
        for path in places(right):
            for thing in anything():
                self.wrong(replaced(right, path, thing))
        for thing in of_other_kinds(right) + [("way", right), right + (None,), (Loud(),), "", "0.0 1.0", right[:1]]:
            self.wrong(thing)
        for thing in anything():
            self.wrong(right + (thing,))
            self.wrong((thing,) + right)
            self.wrong(thing, program_of(), go())

    def test_by_names_and_again(self):
        for _ in range(2):
            self.assertIs(shows_stuck(program=CROSS, town=CROSS_TOWN, thing=((0, 0), (1, 0))), True)

    def test_just_those_that_lead_to_a_stuck_scene(self):
        told = {True: 0, False: 0}
        for chance, program, town, found in drawn(crowded_program, 200, 300):
            scene, weaving = begun(program, town), ()
            while moves(program, scene) and len(weaving) < 30:
                self.wrong(weaving, program, town)
                weaving += (chance.choice(moves(program, scene)),)
                scene, _ = stepped(program, scene, weaving[-1])
            right = is_stuck(program, scene)
            self.assertIs(shows_stuck(program, town, weaving), right)
            told[right] += 1
        self.assertGreater(min(told.values()), 20)


class TestShowsNever(unittest.TestCase):
    def test_a_book_without_a_stuck_scene(self):
        for program, town in ((program_of(), go(2)), (program_of(("within", A, (SAY,))), go(3)),
                              (FORKS, (("go", (1, 2)), ("go", (2, 3)))), (program_of(("again", (TAKE,))), go(2))):
            scenes = book(program, town, 999)[1]
            self.assertIs(shows_never(program, town, scenes), True)
            self.assertIs(shows_never(program=program, town=town, thing=scenes), True)
            self.assertIs(shows_never(program, town, scenes[:-1]), False)
            self.assertIs(shows_never(program, town, scenes + scenes[-1:]), False)

    def test_a_book_with_one(self):
        for program, town in ((CROSS, CROSS_TOWN), (program_of(("within", A, (TAKE,))), go())):
            scenes = book(program, town, 999)[1]
            self.assertIs(shows_book(program, town, scenes), True)
            self.assertIs(shows_never(program, town, scenes), False)
            left = tuple(scene for scene in scenes if not is_stuck(program, scene))
            self.assertIs(shows_never(program, town, left), False)

    def test_things_of_any_kind(self):
        program = program_of(TAKE)
        scenes = book(program, go(), 9)[1]
        self.assertIs(shows_never(program, go(), scenes), True)
        for path in places(scenes):
            for thing in anything():
                self.assertIs(shows_never(program, go(), replaced(scenes, path, thing)), False)
        for thing in of_other_kinds(scenes) + [(), NEVER, ("all", scenes), None]:
            self.assertIs(shows_never(program, go(), thing), False)

    def test_just_where_never_is_told(self):
        for chance, program, town, found in drawn(crowded_program, 80, 150):
            if found is not None:
                scenes = book(program, town, 150)[1]
                self.assertIs(shows_never(program, town, scenes), stuck_way(program, town, 150) == NEVER)


if __name__ == "__main__":
    unittest.main()
