"""Point 26: papers found from the text alone."""

import copy
import itertools
import unittest

from neverstuck.finding import paper_for
from neverstuck.papers import faults, is_paper, shows_paper
from neverstuck.programs import is_program
from neverstuck.textrings import chain, text_ring
from tests.helpers import (WORDS, at_place, crowded_program, drawn_paper, drawn_row, lots_within, papered_program,
                           places, random_program, replaced, seeded, with_row)

P, Q, R, ZERO = ("p", 0), ("q", 0), ("r", 0), ("", 0)


def within(name, term, *rows):
    return ("within", (name, term), rows)


def by(one, other, first=(), second=(), third=()):
    return ("by", one, other, first, second, third)


def of_one_name(*deeds):
    return (("a",), tuple(deeds))


def bounds_of(params, most):
    words = ("",) + params
    return [()] + [(word, figure) for word in words for figure in range(-most, most + 1)]


def some_paper(program, most, several=False):
    """A paper with small figures that is taken, by going through them all; of one name; None where there is none."""
    per_deed = []
    for _, params, _ in program[1]:
        bounds = [("a", bound) for bound in bounds_of(params, most)]
        takes = [()] + [(entry,) for entry in bounds]
        per_deed.append(takes + list(itertools.combinations(sorted(bounds), 2)) if several else takes)
    for side in (1, -1):
        for takes in itertools.product(*per_deed):
            if faults(program, (((0, side),), takes)) == ():
                return (((0, side),), takes)
    return None


def drawn_of_one_name(chance, params, most, tries):
    """A program of one name, often with a paper: it is built by one, then perhaps changed in a place."""
    heads = [(deed, params) for deed in ("go", "do")[:chance.randint(1, 2)]]
    paper = drawn_paper(chance, ("a",), heads, most)
    program = of_one_name(*[(deed, params, ()) for deed, params in heads])
    for attempt in range(tries):
        deed = chance.randrange(len(heads))
        path = chance.choice(lots_within(program[1][deed][2]))
        other = with_row(program, deed, path, drawn_row(chance, ("a",), paper, deed, heads, most))
        if is_program(other) and (attempt == tries - 1 or faults(other, paper) == ()):
            program = other
    return program


def with_a_figure_otherwise(chance, program):
    paths = [path for path in places(program) if type(at_place(program, path)) is int]
    if not paths:
        return program
    path = chance.choice(paths)
    figure = at_place(program, path) + chance.choice((-40, -2, -1, 1, 2, 40))
    return replaced(program, path, max(-99, min(99, figure)))


def called_otherwise(thing, words):
    """The thing with words in the place of others, but for the sorts of rows; names of locks stay rising."""
    if isinstance(thing, tuple):
        inner = tuple(called_otherwise(part, words) for part in thing)
        return thing[:1] + inner[1:] if thing and isinstance(thing[0], str) and thing[0] in SORTS else inner
    return words.get(thing, thing) if isinstance(thing, str) else thing


SORTS = ("say", "call", "within", "all", "ask", "by", "either", "again")


class TestPaperFor(unittest.TestCase):
    def check(self, program, found=None):
        """That what is told is right, and there or not, if that is said."""
        paper = paper_for(program)
        if found is not None:
            self.assertEqual(paper is not None, found)
        if paper is None:
            self.assertIsNotNone(text_ring(program))
            return None
        self.assertIs(is_paper(program, paper), True)
        self.assertEqual(faults(program, paper), ())
        self.assertIs(shows_paper(program, paper), True)
        for entries in paper[1]:
            self.assertEqual(len({name for name, bound in entries}), len(entries))
        self.assertEqual({layer for layer, side in paper[0]}, set(range(len(chain(program)) + 1)))
        return paper

    def test_nothing_is_taken(self):
        paper = self.check((("a", "b"), (("go", ("p",), (("say", "x"), ("ask", ("a", P), (), ()))),)), True)
        self.assertEqual(paper[1], ((),))
        self.assertEqual([layer for layer, side in paper[0]], [0, 0])

    def test_layers_of_a_chain(self):
        rows = (within("f", P, within("d", P, within("a", P)), within("b", P)), within("b", P, within("d", P)))
        paper = self.check((("a", "b", "c", "d", "e", "f"), (("go", ("p",), rows),)), True)
        self.assertEqual([layer for layer, side in paper[0]], [3, 1, 0, 2, 0, 0])

    def test_layers_of_the_longest_of_several_chains_to_a_name(self):
        names = ("a", "b", "c", "d", "e", "f")
        for order in itertools.permutations(range(6)):
            links = [(order[0], order[5]), (order[1], order[2]), (order[2], order[5]), (order[3], order[5])]
            rows = tuple(within(names[one], P, within(names[other], P)) for one, other in links)
            paper = self.check((names, (("go", ("p",), rows),)), True)
            self.assertEqual([paper[0][at][0] for at in order], [0, 0, 1, 0, 0, 2])

    def test_layers_of_all_names(self):
        for order in itertools.permutations("abcdef"):
            rows = tuple(within(one, ZERO, within(other, ZERO)) for one, other in zip(order, order[1:]))
            paper = self.check((("a", "b", "c", "d", "e", "f"), (("go", (), rows),)), True)
            self.assertEqual([paper[0]["abcdef".index(name)][0] for name in order], [0, 1, 2, 3, 4, 5])

    def test_none_where_there_is_a_ring_of_two_names_or_more(self):
        for names in ("ab", "abc", "acbd", "abcdef"):
            rows = tuple(within(one, ZERO, within(other, ("", 1))) for one, other in zip(names, names[1:] + names[0]))
            self.check((("a", "b", "c", "d", "e", "f"), (("go", (), rows),)), False)
            self.check((("a", "b", "c", "d", "e", "f"), (("go", (), rows[1:]),)), True)

    def test_either_side(self):
        for figure in (-99, -1, 0, 1, 99):
            program = of_one_name(("go", ("p",), (within("a", P, within("a", ("p", figure))),)))
            paper = self.check(program, figure != 0)
            if paper is not None:
                self.assertEqual(paper[0][0][1], 1 if figure > 0 else -1)
        self.check(of_one_name(("go", ("p",), (within("a", P, within("a", ("p", 1)), within("a", ("p", -1))),))), False)
        rows = (within("a", P, within("a", ("p", 1))), within("b", P, within("b", ("p", -1))))
        paper = self.check((("a", "b"), (("go", ("p",), rows),)), True)
        self.assertEqual(paper[0], ((0, 1), (0, -1)))

    def test_by_what_is_known(self):
        def eat(*lots):
            return of_one_name(("eat", ("p", "q"), (by(P, Q, *lots),)))

        rising, falling = within("a", P, within("a", Q)), within("a", Q, within("a", P))
        self.check(of_one_name(("eat", ("p", "q"), (rising,))), False)
        self.check(eat((rising,)), True)
        self.check(eat((rising,), (within("a", P),), (falling,)), True)
        self.check(eat((rising,), (), (rising,)), False)
        self.check(eat((rising,), (rising,)), False)

    def test_calls_of_itself(self):
        def down(figure, *rows):
            return of_one_name(("go", ("p",), (within("a", P, ("call", "go", (("p", figure),))),) + rows))

        for figure in (-99, -1, 1, 99):
            self.check(down(figure), True)
            self.check(down(figure, within("a", ("p", figure))), True)
            self.check(down(figure, within("a", ("p", -figure))), False)
        self.check(down(0), False)
        for figure in (-1, 0, 1):
            self.check(of_one_name(("go", ("p",), (within("a", P), ("call", "go", (("p", figure),))))), True)

    def test_calls_inside_a_lock_just_short_of_what_is_taken(self):
        for figure in (-98, -50, 0, 50, 98):
            do = ("do", ("p",), (within("a", ("p", figure)),))
            for more in (-1, 0, 1):
                go = ("go", ("p",), (within("a", ("p", figure + more), ("call", "do", (P,))),))
                self.check(of_one_name(go, do), more != 0)

    def test_figures_together_beyond_what_a_bound_may_have(self):
        falling = within("a", ("p", 99), within("a", ("p", 98)))
        for figure in (-99, -1, 0, 1, 99):
            go = ("go", ("p",), (within("a", ("p", 99), ("call", "do", (("p", figure),))),))
            self.check(of_one_name(go, ("do", ("p",), (falling,))), figure < 0)
        # What do takes goes up to p and 100, so that no term bounds it, and go is in a lock.
        be = ("be", ("p",), (within("a", ("p", 99)),))
        do = ("do", ("p",), (falling, ("call", "be", (("p", 1),))))
        go = ("go", ("p",), (within("a", ("p", 99), ("call", "do", (("p", -50),))),))
        self.assertEqual(self.check(of_one_name(do, be), True)[1][0], (("a", ()),))
        self.check(of_one_name(go, do, be), False)
        self.check(of_one_name(go, do[:2] + ((falling, ("call", "be", (P,))),), be), True)

    def test_a_word_must_be_chosen(self):
        do = ("do", WORDS, (by(P, Q, (by(Q, R, (within("a", R),)),)),))
        rising = within("a", P, within("a", ("p", 1)))
        calls = tuple(within("a", P, ("call", "do", terms)) for terms in ((P, Q, R), (Q, P, R), (Q, R, ("p", 1))))
        for call in calls:
            self.check(of_one_name(("go", WORDS, (rising, call)), do), True)
        for some in itertools.combinations(calls, 2):
            self.check(of_one_name(("go", WORDS, (rising,) + some), do), False)
        self.check(of_one_name(("go", WORDS, (rising, within("a", P, ("call", "do", (Q, R, P))))), do), False)

    def test_words_of_several_deeds_must_go_together(self):
        do = ("do", ("p", "q"), (by(P, Q, (within("a", Q),), (within("a", P),), ()),))
        be = ("be", ("p", "q"), (("call", "do", (Q, P)),))
        so = ("so", ("p", "q"), (("call", "be", (Q, P)),))
        rising = within("a", P, within("a", ("p", 1)))
        for terms, right in (((("p", 1), Q), True), ((("q", 0), ("p", 1)), True), ((P, Q), False)):
            go = ("go", ("p", "q"), (rising, within("a", P, ("call", "so", terms))))
            self.check(of_one_name(go, do, be, so), right)

    def test_nothing_known_is_handed_on(self):
        do = ("do", ("p", "q"), (within("a", P), within("a", Q)))
        be = ("be", (), (("call", "do", (ZERO, ("", 5))),))
        self.check(of_one_name(do, be), True)
        self.check(of_one_name(do, be, ("go", (), (within("a", ZERO, ("call", "be", ())),))), False)
        self.check((("a", "b"), (do, be, ("go", (), (within("b", ZERO, ("call", "be", ())),)))), True)

    def test_dead_rows_take_nothing(self):
        ring = within("a", P, within("b", P)), within("b", P, within("a", P), within("b", P))
        program = (("a", "b"), (("go", ("p",), (by(("p", 1), P, ring),)),))
        self.assertEqual(self.check(program, True), (((0, 1), (0, 1)), ((),)))
        program = (("a", "b"), (("go", ("p",), (by(("p", 1), P, (("call", "do", (P,)),)),)), ("do", ("p",), ring[:1])))
        self.assertEqual(self.check(program, True)[1][0], ())

    def test_drawn_programs(self):
        met = set()
        for seed in range(400):
            chance = seeded(seed)
            program = random_program(chance) if seed % 4 else crowded_program(chance)
            ring = text_ring(program)
            paper = self.check(program, True if ring is None else None)
            if chain(program) is None:
                self.assertIsNone(paper)
            met.add((paper is None, ring is None, chain(program) is None))
        self.assertEqual(met, {(False, True, False), (False, False, False), (True, False, False), (True, False, True)})

    def test_programs_built_from_a_paper(self):
        rings = 0
        for seed in range(150):
            chance = seeded(seed)
            program, paper = papered_program(chance, chance.choice((30, 60, 120)), chance.choice((2, 99)))
            self.assertIs(shows_paper(program, paper), True)
            self.check(program, True)
            rings += text_ring(program) is not None
        self.assertGreater(rings, 40)

    def test_programs_for_all_of_whose_small_papers_are_gone_through(self):
        met = set()
        for seed in range(130):
            chance = seeded(seed)
            program = drawn_of_one_name(chance, WORDS[:chance.choice((1, 1, 2))], 1, 12)
            paper = some_paper(program, 1)
            found = self.check(program, True if paper is not None else None)
            met.add((found is None, text_ring(program) is None))
        self.assertEqual(met, {(True, False), (False, False), (False, True)})

    def test_programs_without_params_for_all_of_whose_small_papers_are_gone_through(self):
        met = set()
        for seed in range(60):
            program = drawn_of_one_name(seeded(seed), (), 2, 10)
            paper = some_paper(program, 2, several=True)
            found = self.check(program, True if paper is not None else None)
            met.add((found is None, text_ring(program) is None))
        self.assertEqual(met, {(True, False), (False, False), (False, True)})

    def drawn_pairs(self):
        """Drawn programs with such whose papers are just missed among them."""
        for seed in range(120):
            chance = seeded(seed)
            program, _ = papered_program(chance, 50, chance.choice((2, 99)))
            for _ in range(chance.randint(0, 3)):
                program = with_a_figure_otherwise(chance, program)
            if is_program(program):
                yield chance, program

    def test_the_same_called_otherwise(self):
        met = set()
        for chance, program in self.drawn_pairs():
            words = dict(zip(("p", "q", "r", "go", "do", "be", "so"), ("say", "by", "call", "x", "be", "go", "or")))
            names = dict(zip(program[0], chance.sample(("again", "all", "ask", "z"), len(program[0]))))
            other = called_otherwise(program, {**words, **names})
            other = (tuple(sorted(other[0])), other[1])
            self.assertIs(is_program(other), True)
            found = self.check(program) is not None
            self.check(other, found)
            met.add(found)
        self.assertEqual(met, {True, False})

    def test_the_same_with_deeds_in_another_order(self):
        met = set()
        for chance, program in self.drawn_pairs():
            found = self.check(program) is not None
            self.check((program[0], program[1][::-1]), found)
            self.check((program[0], tuple(chance.sample(program[1], len(program[1])))), found)
            met.add(found)
        self.assertEqual(met, {True, False})

    def test_the_same_with_rows_put_in_that_are_dead(self):
        met = set()
        for chance, program in self.drawn_pairs():
            other = program
            for _ in range(3):
                deed = chance.randrange(len(other[1]))
                params = other[1][deed][1]
                word = chance.choice(params + ("",))
                calls = tuple(("call", called, (ZERO,) * len(others)) for called, others, _ in other[1])
                dead = within("a", (word, 1), within("a", (word, 1)), *calls)
                row = by((word, 5), (word, 5), (dead,), (), (dead,))
                more = with_row(other, deed, chance.choice(lots_within(other[1][deed][2])), row)
                other = more if is_program(more) else other
            found = self.check(program) is not None
            self.assertEqual(self.check(other, found), paper_for(program))
            met.add((found, other == program))
        self.assertLessEqual({(True, False), (False, False)}, met)

    def test_by_names_and_nothing_changed(self):
        program = of_one_name(("go", ("p",), (within("a", P, ("call", "go", (("p", 1),))),)))
        kept = copy.deepcopy(program)
        told = paper_for(program)
        for _ in range(2):
            self.assertEqual(paper_for(program=program), told)
        self.assertEqual(program, kept)
        self.assertEqual(told[0], ((0, 1),))
        for path in places(told):
            self.assertIn(type(at_place(told, path)), (tuple, int, str))


if __name__ == "__main__":
    unittest.main()
