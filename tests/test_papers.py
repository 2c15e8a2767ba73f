"""Points 23 to 25: papers, what is further by one, and the faults of one."""

import copy
import itertools
import unittest

from neverstuck.papers import faults, is_further, is_paper, shows_paper
from neverstuck.programs import deed_numbers
from neverstuck.terms import put_in, value_of
from tests.helpers import (Loud, anything, at_place, drawn_paper, of_other_kinds, papered_program, places,
                           random_program, replaced, seeded)

P, Q, R, ZERO = ("p", 0), ("q", 0), ("r", 0), ("", 0)
FREE = (("a", ()), ("b", ()), ("c", ()))


def within(name, term, *rows):
    return ("within", (name, term), rows)


def by(one, other, first=(), second=(), third=()):
    return ("by", one, other, first, second, third)


def call(*terms):
    return ("call", "do", terms)


def program_by(*rows, params=("p", "q", "r"), others=()):
    return (("a", "b", "c"), (("go", params, rows),) + tuple(others))


def paper_by(*takes, layers=(0, 1, 2), sides=(1, 1, 1)):
    return (tuple(zip(layers, sides)), takes)


def faults_by_trying(program, paper):
    """The faults, by going through all numbers of params that are small."""
    names, deeds = program
    found = []
    count = [0]

    def further(numbers, name, one, other):
        """Whether one is further than the other by all the numbers, and whether it is as far at least."""
        side = paper[0][names.index(name)][1]
        steps = [(value_of(one, some) - value_of(other, some)) * side for some in numbers]
        return min(steps) > 0, min(steps) >= 0

    def look(number, deed, numbers, held, entries):
        above = told = True
        for name, term in entries:
            for other, around in held:
                layer, beneath = paper[0][names.index(name)][0], paper[0][names.index(other)][0]
                if not layer > beneath:
                    above = above and name == other and term != () and further(numbers, name, term, around)[0]
            bounds = [bound for other, bound in paper[1][deed] if other == name]
            told = told and (() in bounds or any(term != () and further(numbers, name, term, bound)[1]
                                                 for bound in bounds))
        found.extend([(number, word) for word, right in (("above", above), ("told", told)) if not right])

    def entries_of(row):
        if row[0] == "within":
            return [row[1]]
        if row[0] == "all":
            return row[1]
        if row[0] != "call":
            return []
        called = deed_numbers(program)[row[1]]
        terms = dict(zip(deeds[called][1], row[2]))
        return [(name, bound and put_in(bound, terms)) for name, bound in paper[1][called]]

    def go_through(deed, lot, numbers, held):
        for row in lot:
            number, sort = count[0], row[0]
            count[0] += 1
            if numbers:
                look(number, deed, numbers, held, entries_of(row))
            if sort in ("within", "ask", "all"):
                go_through(deed, row[2], numbers, held + list(row[1] if sort == "all" else [row[1]]))
                go_through(deed, row[3] if sort == "ask" else (), numbers, held)
            elif sort == "by":
                one, other = row[1:3]
                for inner, right in zip(row[3:], (lambda x, y: x < y, lambda x, y: x == y, lambda x, y: x > y)):
                    some = [each for each in numbers if right(value_of(one, each), value_of(other, each))]
                    go_through(deed, inner, some, held)
            elif sort in ("either", "again"):
                for inner in row[1:]:
                    go_through(deed, inner, numbers, held)

    for deed, (_, params, rows) in enumerate(deeds):
        numbers = [dict(zip(params, some)) for some in itertools.product(range(-13, 14), repeat=len(params))]
        go_through(deed, rows, numbers, [])
    return tuple(found)


class TestIsPaper(unittest.TestCase):
    program = (("a", "b"), (("go", ("p", "q"), ()), ("do", (), ())))
    paper = (((0, 1), (9, -1)), ((("a", ()), ("b", ("p", 99))), (("a", ("", -99)),)))

    def right(self, thing, program=None):
        self.assertIs(is_paper(program or self.program, thing), True)

    def wrong(self, thing, program=None):
        self.assertIs(is_paper(program or self.program, thing), False)

    def entries(self, *entries, deed=0):
        return replaced(self.paper, (1, deed), entries)

    def test_right_ones(self):
        self.right(self.paper)
        for layer in range(10):
            for side in (1, -1):
                self.right(replaced(self.paper, (0, 1), (layer, side)))

    def test_layers_and_sides_that_are_none(self):
        for layer in (-1, 10, 11, 100, 10 ** 30):
            self.wrong(replaced(self.paper, (0, 0, 0), layer))
        for side in (0, 2, -2, 10, 10 ** 30):
            self.wrong(replaced(self.paper, (0, 0, 1), side))

    def test_bounds(self):
        for bound in ((), ("p", 0), ("q", -99), ("", 0), ("", 99), ("p", 99)):
            self.right(self.entries(("a", bound)))
        for bound in ((), ("", 0), ("", -99)):
            self.right(self.entries(("a", bound), deed=1))
        for bound in (("p", 100), ("p", -100), ("", 100), ("r", 0), ("a", 0), ("P", 0), ("p",), ("p", 0, 0), (0, "p"),
                      0):
            self.wrong(self.entries(("a", bound)))
        for bound in (("p", 0), ("q", 0)):
            self.wrong(self.entries(("a", bound), deed=1))

    def test_names(self):
        self.right(self.entries(("b", ())))
        for name in ("c", "", "ab", "A", "go", "p", 0):
            self.wrong(self.entries((name, ())))
        for entry in ((), ("a",), ("a", (), ()), "a", "ab", ((), "a")):
            self.wrong(self.entries(entry))

    def test_takes_of_no_entry_and_of_several_of_one_name(self):
        self.right(self.entries())
        self.right((((3, 1), (3, 1)), ((), ())))
        several = (("a", ()), ("a", ("", 0)), ("a", ("", 1)), ("a", ("p", -5)), ("b", ()), ("b", ("q", 0)))
        self.right(self.entries(*several))

    def test_takes_that_do_not_rise(self):
        rising = (("a", ()), ("a", ("", -1)), ("a", ("", 0)), ("a", ("p", 0)), ("b", ("p", -3)))
        for entries in itertools.permutations(rising):
            self.assertIs(is_paper(self.program, self.entries(*entries)), entries == rising)
        for entry in rising:
            self.wrong(self.entries(entry, entry))

    def test_too_many_and_too_few(self):
        ranks, takes = self.paper
        for thing in ((), (ranks,), (takes,), (ranks, takes, ()), (takes, ranks), ((), ()), (ranks, ()), ((), takes),
                      (ranks + ranks[:1], takes), (ranks[:1], takes), (ranks, takes[:1]), (ranks, takes + ((),)),
                      (((0, 1, 1),) + ranks[1:], takes), (((0,),) + ranks[1:], takes)):
            self.wrong(thing)

    def test_of_programs_of_all_sizes(self):
        names = ("a", "b", "c", "d", "e", "f")
        program = (names, tuple((deed, ("p",), ()) for deed in names))
        paper = (((0, 1),) * 6, (tuple((name, ("p", 5)) for name in names),) * 6)
        self.right(paper, program)
        self.wrong(paper)
        self.right((((0, 1),), ((),)), (("a",), (("go", (), ()),)))

    def test_things_of_any_kind_in_any_place(self):
        for path in places(self.paper):
            for thing in anything():
                self.wrong(replaced(self.paper, path, thing))
        for thing in of_other_kinds(self.paper):
            self.wrong(thing)
        for path in ((0,), (1,), (1, 0), (1, 1), (0, 0), (1, 0, 0)):
            for thing in anything():
                self.wrong(replaced(self.paper, path, at_place(self.paper, path) + (thing,)))
        self.wrong((Loud(), Loud()))

    def test_by_names_and_nothing_changed(self):
        kept = copy.deepcopy((self.program, self.paper))
        for _ in range(2):
            self.assertIs(is_paper(program=self.program, thing=self.paper), True)
        self.assertEqual((self.program, self.paper), kept)


class TestIsFurther(unittest.TestCase):
    program = program_by()

    def told(self, one, other, **ranks):
        return is_further(self.program, paper_by((), **ranks), one, other)

    def test_by_the_layer(self):
        self.assertIs(self.told(("b", 0), ("a", 0)), True)
        self.assertIs(self.told(("b", -50), ("a", 50)), True)
        self.assertIs(self.told(("a", 50), ("b", -50)), False)
        self.assertIs(self.told(("a", 0), ("c", 0), layers=(9, 0, 8)), True)

    def test_by_the_number_at_the_same_name(self):
        for one, other in itertools.product((-10 ** 30, -2, -1, 0, 1, 2, 10 ** 30), repeat=2):
            self.assertIs(self.told(("a", one), ("a", other)), one > other)
            self.assertIs(self.told(("a", one), ("a", other), sides=(-1, 1, 1)), one < other)
            self.assertIs(self.told(("c", one), ("c", other), sides=(-1, -1, 1)), one > other)
            self.assertIs(self.told(("c", one), ("c", other), sides=(1, 1, -1)), one < other)

    def test_not_of_unlike_names_of_one_layer(self):
        for one, other in itertools.product((-5, 0, 5), repeat=2):
            for sides in itertools.product((1, -1), repeat=3):
                self.assertIs(self.told(("a", one), ("b", other), layers=(4, 4, 4), sides=sides), False)
                self.assertIs(self.told(("b", one), ("a", other), layers=(4, 4, 4), sides=sides), False)

    def test_by_names(self):
        told = is_further(program=self.program, paper=paper_by(()), one=("a", 2), other=("a", 1))
        self.assertIs(told, True)


class TestFaults(unittest.TestCase):
    def check(self, program, paper, *told):
        self.assertIs(is_paper(program, paper), True)
        self.assertEqual(faults(program, paper), told)
        self.assertIs(shows_paper(program, paper), told == ())

    def above(self, rows, *numbers, params=("p", "q", "r"), **ranks):
        """That by a paper which tells all with () just these rows have the fault above."""
        told = [(number, "above") for number in numbers]
        self.check(program_by(*rows, params=params), paper_by(FREE, **ranks), *told)

    def told(self, rows, bounds, *numbers, **ranks):
        """That by a paper with such bounds of the name a just these rows have the fault told."""
        entries = tuple(sorted([("a", bound) for bound in bounds]))
        self.check(program_by(*rows), paper_by(entries, **ranks), *[(number, "told") for number in numbers])

    def test_rows_that_take_nothing(self):
        rows = (("say", "x"), ("again", (("say", "x"),)), ("either", (), ()), by(P, Q), ("ask", ("a", P), (), ()))
        self.check(program_by(*rows), paper_by(()))

    def test_above_by_the_layer(self):
        self.above([within("a", P, within("b", Q, within("c", R)))])
        self.above([within("b", P, within("a", P, within("c", P)))], 1)
        self.above([within("c", P, within("b", P, within("a", P)))], 1, 2)
        self.above([within("c", P, within("b", P, within("a", P)))], layers=(9, 5, 0))
        self.above([within("a", P, within("b", P))], 1, layers=(3, 3, 3))

    def test_above_by_the_number(self):
        for figure in (-99, -1, 0, 1, 99):
            for name, word in (("a", "p"), ("a", ""), ("b", "q")):
                rows = [within(name, (word, 0), within(name, (word, figure)))]
                self.above(rows, *([] if figure > 0 else [1]))
                self.above(rows, *([] if figure < 0 else [1]), sides=(-1, -1, -1))

    def test_above_of_unlike_words_by_what_is_known(self):
        rows = [within("a", P, within("a", Q))]
        self.above(rows, 1)
        self.above(rows, 1, sides=(-1, 1, 1))
        inner = within("a", P, within("a", Q))
        rows = [by(P, Q, (inner,), (inner,), (inner,))]
        self.above(rows, 4, 6)
        self.above(rows, 2, 4, sides=(-1, 1, 1))
        rows = [by(P, ("q", 5), (within("a", ("p", 3), within("a", ("q", 8)), within("a", ("q", 7))),))]
        self.above(rows, 3)
        rows = [by(P, ("", 5), (within("a", P, within("a", ("", 5)), within("a", ("", 4))),))]
        self.above(rows, 3)

    def test_above_by_a_chain_of_what_is_known(self):
        inner = within("a", P, within("a", R))
        self.above([by(P, Q, (by(Q, R, (inner,), (inner,), (inner,)),))], 7)
        self.above([by(P, ("q", 1), (by(Q, ("r", 1), (inner,)),))], 3)
        self.above([by(P, ("q", 1), (by(Q, ("r", 1), (within("a", P, within("a", ("r", 1))),)),))])

    def test_what_is_known_at_the_row_counts_where_the_lock_is_held_outside(self):
        self.above([within("a", P, by(P, Q, (within("a", Q),), (within("a", Q),)))], 3)

    def test_above_each_one_held_around(self):
        self.above([within("a", ("p", 2), ("either", (within("a", ("p", 3), within("a", ("p", 4))),), ()))])
        self.above([within("a", ("p", 2), within("a", ("p", 1), within("a", ("p", 2))))], 1, 2)
        self.above([within("a", ("p", 2), within("a", ("p", 5), within("a", ("p", 4))))], 2)
        self.above([within("b", P, within("c", P, within("b", ("p", 1))))], 2)

    def test_all(self):
        def both(one, other, *rows):
            return ("all", (("a", one), ("b", other)), rows)

        self.above([both(P, P)])
        self.above([("all", (("a", P), ("a", ("p", -5)), ("a", Q)), ())])
        self.above([within("a", P, both(("p", 1), P))])
        self.above([within("a", P, both(P, P))], 1)
        self.above([within("b", P, both(("p", 1), ("p", 1)))], 1)
        self.above([both(P, P, within("a", ("p", 1)))], 1)
        self.above([both(P, P, within("b", ("p", 1)))])
        self.above([("all", (("a", P), ("a", ("p", 3))), (within("a", ("p", 2)), within("a", ("p", 4))))], 1)

    def test_an_asks_own_lock_and_what_is_taken_in_its_lots(self):
        self.check(program_by(within("c", P, ("ask", ("a", P), (), ()))), paper_by((("c", ()),)))
        rows = [("ask", ("b", P), (within("a", P), within("b", P), within("b", ("p", 1)), within("c", P)),
                 (within("a", P), within("b", P)))]
        self.above(rows, 1, 2)
        self.above([("ask", ("a", P), (("ask", ("a", P), (within("a", P),), ()),), ())], 2)
        self.above([within("b", P, ("ask", ("a", P), (within("a", ("p", 1)),), ()))], 2)

    def test_other_rows_around(self):
        for around in (lambda row: ("either", (row,), ()), lambda row: ("either", (), (row,)),
                       lambda row: ("again", (row,)), lambda row: ("ask", ("c", P), (), (row,))):
            self.above([around(within("b", P))])
            self.above([within("b", P, around(within("b", P)))], 2)
        self.above([within("c", P), within("a", P)])

    def test_told(self):
        for bounds, figures in (([()], range(-9, 10)), ([P], range(0, 10)), ([("p", -3)], range(-3, 10)),
                                ([("p", 4), ("p", 2)], range(2, 10)), ([Q], ()), ([ZERO], ()), ([Q, P], range(0, 10))):
            for figure in range(-9, 10):
                rows = [within("a", ("p", figure))]
                self.told(rows, bounds, *([] if figure in figures else [0]))

    def test_told_by_the_other_side(self):
        for figure in range(-9, 10):
            self.told([within("a", ("p", figure))], [("p", 2)], *([] if figure <= 2 else [0]), sides=(-1, 1, 1))

    def test_told_of_figures_alone(self):
        for figure in (-99, 6, 7, 8, 99):
            self.told([within("a", ("", figure))], [("", 7)], *([] if figure >= 7 else [0]))
            self.told([within("a", ("", figure))], [("", 7)], *([] if figure <= 7 else [0]), sides=(-1, 1, 1))

    def test_told_by_what_is_known(self):
        rows = [by(P, Q, *[(within("a", Q),)] * 3)]
        self.told(rows, [P], 3)
        self.told(rows, [Q])
        self.told(rows, [("p", 1)], 2, 3)
        self.told(rows, [P], 1, sides=(-1, 1, 1))
        rows = [by(P, ("", 5), *[(within("a", P),)] * 3)]
        self.told(rows, [("", 5)], 1)
        self.told(rows, [("", 6)], 1, 2)
        self.told(rows, [("", 5)], 3, sides=(-1, 1, 1))

    def test_told_of_no_entry_of_its_name(self):
        self.told([within("a", P)], [], 0)
        self.check(program_by(within("a", P)), paper_by((("b", ()), ("c", ()))), (0, "told"))
        self.check(program_by(within("a", P), within("b", P)), paper_by((("b", ()),)), (0, "told"))

    def test_told_of_each_lock_of_all(self):
        row = ("all", (("a", P), ("a", ("p", 3)), ("b", Q)), ())
        self.check(program_by(row), paper_by((("a", P), ("b", Q))))
        self.check(program_by(row), paper_by((("a", ("p", 1)), ("b", Q))), (0, "told"))
        self.check(program_by(row), paper_by((("a", P), ("b", ("q", 1)))), (0, "told"))
        self.check(program_by(row), paper_by((("a", P),)), (0, "told"))

    def test_a_bound_of_another_deed_does_not_tell(self):
        program = program_by(within("a", P), others=[("do", ("p",), ())])
        self.check(program, paper_by((), (("a", ()),)), (0, "told"))

    def calls(self, rows, takes, own, *told, params=("q", "p"), **ranks):
        """Faults of calls of do, whose takes are these, in rows of go, whose takes are own."""
        program = program_by(*rows, others=[("do", params, ())])
        self.check(program, paper_by(own, takes, **ranks), *told)

    def test_calls_of_deeds_that_take_nothing(self):
        self.calls([within("c", P, call(P, Q))], (), FREE)

    def test_calls_above_by_the_layer(self):
        for bound in ((), P, Q, ZERO):
            self.calls([within("a", P, call(P, Q))], (("b", bound),), FREE)
            self.calls([within("b", P, call(P, Q))], (("a", bound),), FREE, (1, "above"))
            self.calls([within("a", P, call(P, Q))], (("b", bound),), FREE, (1, "above"), layers=(0, 0, 0))

    def test_calls_above_by_the_bound_put_in(self):
        for figure in range(-3, 4):
            rows = [within("a", P, call(("r", 50), ("p", figure)))]
            self.calls(rows, (("a", ("p", 1)),), FREE, *([] if figure >= 0 else [(1, "above")]))
            self.calls(rows, (("a", ("p", 1)),), FREE, *([] if figure < -1 else [(1, "above")]), sides=(-1, 1, 1))
            self.calls(rows, (("a", ("q", 1)),), FREE, (1, "above"))
        self.calls([within("a", P, call(("p", 1), P))], (("a", Q),), FREE)
        self.calls([within("a", ("", 5), call(P, Q))], (("a", ("", 6)),), FREE)
        self.calls([within("a", ("", 5), call(P, Q))], (("a", ("", 5)),), FREE, (1, "above"))
        self.calls([within("a", ("", 5), call(P, ("", 4)))], (("a", ("p", 2)),), FREE)

    def test_calls_with_a_bound_of_nothing_inside_the_same_name(self):
        self.calls([within("a", P, call(P, Q))], (("a", ()),), FREE, (1, "above"))
        self.calls([within("a", P, call(P, Q))], (("a", ()),), (), (0, "told"), (1, "above"), (1, "told"))
        self.calls([by(P, Q, (within("a", P, call(Q, Q)),))], (("a", ()), ("a", Q)), FREE, (2, "above"))

    def test_calls_told_by_the_bound_put_in(self):
        for figure in range(-3, 4):
            rows = [call(("r", 0), ("p", figure))]
            self.calls(rows, (("a", ("p", 1)),), (("a", P),), *([] if figure >= -1 else [(0, "told")]))
            right = [] if figure <= -1 else [(0, "told")]
            self.calls(rows, (("a", ("p", 1)),), (("a", P),), *right, sides=(-1, 1, 1))
            self.calls(rows, (("a", ("q", 1)),), (("a", P),), (0, "told"))
            self.calls(rows, (("a", ("q", 1)),), (("a", R),))
            self.calls(rows, (("a", ("p", 1)),), FREE)
        self.calls([call(P, P)], (("a", ("", 7)),), (("a", ("", 7)),))
        self.calls([call(P, P)], (("a", ("", 7)),), (("a", ("", 8)),), (0, "told"))

    def test_calls_told_by_nothing_alone(self):
        self.calls([call(P, Q)], (("a", ()),), (("a", ()),))
        self.calls([call(P, Q)], (("a", ()),), (("a", ("p", -99)),), (0, "told"))
        self.calls([call(P, Q)], (("a", ()),), (("a", ()), ("a", P)))
        self.calls([call(P, Q)], (("a", ()),), (("b", ()),), (0, "told"))

    def test_calls_with_figures_together_however_great(self):
        rows = [within("a", ("p", 99), call(("p", 99), P))]
        self.calls(rows, (("a", ("q", 99)),), (("a", ("p", 99)),))
        self.calls(rows, (("a", ("q", 1)),), (("a", ("p", 99)),))
        self.calls(rows, (("a", ("q", 0)),), (("a", ("p", 99)),), (1, "above"))
        self.calls(rows, (("a", ("q", -99)),), (("a", P),), (1, "above"))

    def test_calls_of_several_entries(self):
        rows = [within("a", P, call(("p", 1), ("p", 2)))]
        self.calls(rows, (("a", P), ("a", Q), ("b", ())), FREE)
        self.calls(rows, (("a", P), ("a", ("q", -1)), ("b", ())), FREE, (1, "above"))
        self.calls(rows, (("a", P), ("c", ())), (("a", P), ("b", ())), (1, "told"))

    def test_calls_by_what_is_known(self):
        inner = within("a", P, call(Q, R))
        self.calls([by(P, Q, (inner,), (inner,), (inner,))], (("a", Q),), FREE, (4, "above"), (6, "above"))
        self.calls([by(P, Q, (call(Q, R),), (call(Q, R),), (call(Q, R),))], (("a", Q),), (("a", P),), (3, "told"))

    def test_calls_of_itself(self):
        def down(figure):
            return (("a",), (("go", ("p",), (within("a", P, ("call", "go", (("p", figure),))),)),))

        for figure in (-2, -1, 0, 1, 2):
            right = [] if figure > 0 else [(1, "above")] + [(1, "told")] * (figure < 0)
            self.check(down(figure), (((0, 1),), ((("a", P),),)), *right)
            right = [] if figure < 0 else [(1, "above")] + [(1, "told")] * (figure > 0)
            self.check(down(figure), (((0, -1),), ((("a", P),),)), *right)

    def test_nothing_at_dead_rows(self):
        inner = within("b", P, within("a", P), call(P, P))
        for row in (by(("", 1), ("", 0), (inner,)), by(P, P, (inner,), (), (inner,)), by(P, Q, (by(Q, P, (inner,)),))):
            self.calls([row], (("c", ()),), ())
        self.calls([by(P, P, (), (inner,))], (("c", ()),), (), (1, "told"), (2, "above"), (2, "told"), (3, "told"))

    def test_both_faults_rising(self):
        rows = [within("c", P, within("b", P), within("a", P)), within("a", P)]
        told = ((1, "above"), (2, "above"), (2, "told"), (3, "told"))
        self.check(program_by(*rows), paper_by((("b", ()), ("c", ()))), *told)
        others = [("do", ("p",), (within("b", P, within("a", P)),)), ("be", (), (within("a", ZERO),))]
        program = program_by(others=others)
        self.check(program, paper_by((), (), ()), (0, "told"), (1, "above"), (1, "told"), (2, "told"))

    def test_of_drawn_programs_by_trying_numbers(self):
        met = set()
        for seed in range(250):
            chance = seeded(seed)
            program = random_program(chance)
            heads = [(deed, params) for deed, params, _ in program[1]]
            paper = drawn_paper(chance, program[0], heads, 2)
            told = faults(program, paper)
            self.assertEqual(told, faults_by_trying(program, paper))
            self.assertIs(shows_paper(program, paper), told == ())
            met |= {word for _, word in told}
        self.assertEqual(met, {"above", "told"})

    def test_of_drawn_programs_without_faults(self):
        taken = 0
        for seed in range(25):
            chance = seeded(seed)
            program, paper = papered_program(chance, 60, 2)
            if max(len(params) for _, params, _ in program[1]) < 3:
                self.assertEqual(faults_by_trying(program, paper), ())
                taken += 1
        self.assertGreater(taken, 5)

    def test_by_names_and_nothing_changed(self):
        program = program_by(within("b", P, within("a", P)))
        paper = paper_by(FREE)
        kept = copy.deepcopy((program, paper))
        for _ in range(2):
            self.assertEqual(faults(program=program, paper=paper), ((1, "above"),))
            self.assertIs(shows_paper(program=program, thing=paper), False)
        self.assertEqual((program, paper), kept)
        self.assertIs(type(faults(program, paper)[0]), tuple)


class TestShowsPaper(unittest.TestCase):
    program = program_by(within("a", P, within("a", ("p", 1), within("b", Q))), others=[("do", (), ())])
    paper = paper_by((("a", P), ("b", Q)), ())

    def test_taken_and_not(self):
        self.assertIs(shows_paper(self.program, self.paper), True)
        self.assertIs(shows_paper(self.program, paper_by((("a", P), ("b", Q)), (), sides=(-1, 1, 1))), False)
        self.assertIs(shows_paper(self.program, paper_by((("a", P),), ())), False)
        self.assertIs(shows_paper(self.program, paper_by(FREE, FREE)), True)
        self.assertIs(shows_paper(self.program, paper_by((("a", P), ("a", ("q", 9)), ("b", Q)), ())), True)

    def test_what_is_no_paper(self):
        for path in places(self.paper):
            for thing in anything():
                self.assertIs(shows_paper(self.program, replaced(self.paper, path, thing)), False)
        for thing in of_other_kinds(self.paper) + [(), ((), ()), (self.paper[0],), self.paper + ((),)]:
            self.assertIs(shows_paper(self.program, thing), False)
        self.assertIs(shows_paper(self.program, paper_by((("a", P), ("b", Q)), (), layers=(0, 10, 2))), False)


if __name__ == "__main__":
    unittest.main()
