"""Point 27: verdicts, and the look at them."""

import copy
import unittest

from neverstuck.booklooks import shows_stuck
from neverstuck.finding import paper_for
from neverstuck.papers import faults
from neverstuck.stuckways import stuck_way
from neverstuck.textlooks import shows_text_ring
from neverstuck.textrings import text_ring
from neverstuck.verdictlooks import shows_verdict
from neverstuck.verdicts import verdict
from tests.helpers import (A, B, anything, at_place, crowded_program, crowded_town, of_other_kinds, papered_program,
                           places, program_of, random_program, random_town, replaced, seeded)

P, Q = ("p", 0), ("q", 0)


def eat(*rows):
    return (("fork",), (("eat", ("p", "q"), rows),))


BOTH = ("within", ("fork", P), (("within", ("fork", Q), ()),))
EATERS = eat(BOTH)
CROSSED = (("eat", (1, 2)), ("eat", (2, 1)))
RISING = (("eat", (1, 2)), ("eat", (2, 3)))
CAREFUL = eat(("by", P, Q, (BOTH,), (), ()))
WAY = ((0, 0), (1, 0))
RING = ((1, "fork", "fork"),)


class TestVerdict(unittest.TestCase):
    def check(self, program, town, most, *told):
        self.assertEqual(verdict(program, town, most), told)
        self.assertIs(shows_verdict(program, town, told), True)

    def test_never(self):
        for most in (1, 2, 2000):
            self.check(CAREFUL, CROSSED, most, "never", paper_for(CAREFUL))

    def test_stuck(self):
        self.check(EATERS, CROSSED, 2000, "stuck", WAY)
        self.check(EATERS, (("eat", (1, 1)),), 2000, "stuck", ((0, 0),))

    def test_unsure_where_no_weaving_of_this_town_is_stuck(self):
        self.check(EATERS, RISING, 2000, "unsure", RING)

    def test_unsure_where_there_are_more_scenes_than_most(self):
        self.check(EATERS, CROSSED, 2, "unsure", RING)
        most = 1
        while stuck_way(EATERS, CROSSED, most)[0] == "open":
            self.check(EATERS, CROSSED, most, "unsure", RING)
            most += 1
        self.check(EATERS, CROSSED, most, "stuck", WAY)

    def test_unsure_with_the_first_ring(self):
        rows = [("within", A, (("within", B, ()),)), ("within", B, (("within", A, ()),))]
        self.check(program_of(*rows), (("go", ()),), 50, "unsure", ((1, "a", "b"), (3, "b", "a")))

    def test_never_ahead_of_stuck_and_stuck_ahead_of_unsure(self):
        met = set()
        for seed in range(200):
            chance = seeded(seed)
            program = (random_program, crowded_program)[seed % 2](chance)
            town = random_town(chance, program)
            most = chance.choice((5, 300))
            word, thing = verdict(program, town, most)
            paper, way = paper_for(program), stuck_way(program, town, most)
            if paper is not None:
                self.assertEqual((word, thing), ("never", paper))
                self.assertNotEqual(way[0], "way")
            elif way[0] == "way":
                self.assertEqual((word, thing), ("stuck", way[1]))
            else:
                self.assertEqual((word, thing), ("unsure", text_ring(program)))
                self.assertIsNotNone(thing)
            self.assertIs(shows_verdict(program, town, (word, thing)), True)
            met.add((word, way[0]))
        self.assertEqual(met, {("never", "never"), ("never", "open"), ("stuck", "way"), ("unsure", "never"),
                               ("unsure", "open")})

    def test_of_programs_built_from_a_paper(self):
        for seed in range(30):
            chance = seeded(seed)
            program, _ = papered_program(chance, 40, 2)
            town = crowded_town(chance, program)
            self.check(program, town, 20, "never", paper_for(program))

    def test_by_names_and_nothing_changed(self):
        for program in (EATERS, CAREFUL):
            kept = copy.deepcopy((program, CROSSED))
            told = verdict(program=program, town=CROSSED, most=100)
            self.assertEqual(told, verdict(program, CROSSED, 100))
            self.assertIs(shows_verdict(program=program, town=CROSSED, thing=told), True)
            self.assertEqual((program, CROSSED), kept)
            self.assertTrue(all(type(at_place(told, path)) in (tuple, int, str) for path in places(told)))


class TestShowsVerdict(unittest.TestCase):
    paper = (((0, 1),), ((("fork", P),),))

    def right(self, program, town, *thing):
        self.assertIs(shows_verdict(program, town, thing), True)

    def wrong(self, program, town, *thing):
        self.assertIs(shows_verdict(program, town, thing), False)

    def test_never_with_any_paper_that_is_taken(self):
        self.right(CAREFUL, CROSSED, "never", self.paper)
        self.right(CAREFUL, CROSSED, "never", (((7, 1),), ((("fork", ()), ("fork", ("p", -3))),)))
        self.right(CAREFUL, RISING, "never", self.paper)

    def test_never_with_a_paper_that_has_faults(self):
        for paper in ((((0, -1),), self.paper[1]), (((0, 1),), ((("fork", Q),),)), (((0, 1),), ((),))):
            self.assertNotEqual(faults(CAREFUL, paper), ())
            self.wrong(CAREFUL, CROSSED, "never", paper)
        self.wrong(EATERS, CROSSED, "never", self.paper)
        self.wrong(EATERS, RISING, "never", self.paper)

    def test_stuck_with_any_weaving_that_leads_there(self):
        self.right(EATERS, CROSSED, "stuck", WAY)
        self.right(EATERS, CROSSED, "stuck", WAY[::-1])
        self.assertIs(shows_stuck(EATERS, CROSSED, WAY[::-1]), True)

    def test_stuck_with_a_weaving_that_leads_to_no_stuck_scene(self):
        for weaving in ((), WAY[:1], WAY + WAY[:1], ((0, 0),) * 4, ((0, 0), (0, 0)), ((0, 1),), ((2, 0),)):
            self.wrong(EATERS, CROSSED, "stuck", weaving)
        self.wrong(EATERS, RISING, "stuck", WAY)
        self.wrong(CAREFUL, CROSSED, "stuck", WAY)

    def test_unsure_with_any_text_ring_whatever_paper_is_found(self):
        self.right(EATERS, CROSSED, "unsure", RING)
        self.right(EATERS, RISING, "unsure", RING)
        ring = ((2, "fork", "fork"),)
        self.assertIsNotNone(paper_for(CAREFUL))
        self.assertIs(shows_text_ring(CAREFUL, ring), True)
        self.right(CAREFUL, CROSSED, "unsure", ring)

    def test_unsure_with_a_ring_that_is_none(self):
        for ring in ((), ((0, "fork", "fork"),), RING + RING, None, RING[0]):
            self.wrong(EATERS, CROSSED, "unsure", ring)

    def test_each_word_with_another_ones_thing(self):
        things = {"never": self.paper, "stuck": WAY, "unsure": RING}
        for program, words in ((EATERS, ("stuck", "unsure")), (CAREFUL, ("never",))):
            for word in things:
                for other, thing in things.items():
                    self.assertIs(shows_verdict(program, CROSSED, (word, thing)), word == other and word in words)

    def test_other_words(self):
        for word in ("", "Never", "never ", "way", "open", "so", "unsur", 0, None):
            for thing in (self.paper, WAY, RING, None):
                self.wrong(EATERS, CROSSED, word, thing)
                self.wrong(CAREFUL, CROSSED, word, thing)

    def test_things_of_any_kind_in_any_place(self):
        for program, told in ((CAREFUL, ("never", self.paper)), (EATERS, ("stuck", WAY)), (EATERS, ("unsure", RING))):
            self.right(program, CROSSED, *told)
            for path in places(told):
                for thing in anything():
                    self.assertIs(shows_verdict(program, CROSSED, replaced(told, path, thing)), False)
            others = [told + ((),), told[:1], told[1:], told[1], told[0], told[::-1], (told,)]
            for thing in of_other_kinds(told) + others:
                self.assertIs(shows_verdict(program, CROSSED, thing), False)
            for thing in anything():
                self.wrong(program, CROSSED, told[0], thing)
                self.wrong(program, CROSSED, *told, thing)


if __name__ == "__main__":
    unittest.main()
