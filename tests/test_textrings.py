"""Point 22: rings and chains of names in the text, and the looks at them."""

import copy
import itertools
import unittest

from neverstuck.pairs import pairs
from neverstuck.textlooks import shows_chain, shows_text_ring
from neverstuck.textrings import chain, text_ring
from tests.helpers import (A, B, SAY, anything, crowded_program, of_other_kinds, places, program_of, random_program,
                           replaced, seeded)

LETTERS = ("a", "b", "c", "d", "e", "f")


def text_of(*links):
    """A program in which just these are taken while held, "ab" b while a; the row of link k has number 2 k + 1."""
    rows = [("within", (held, ("", 0)), (("within", (taken, ("", 0)), ()),)) for held, taken in links]
    deeds = [("deed" + "abcdef"[at // 12], (), tuple(rows[at:at + 12])) for at in range(0, max(len(rows), 1), 12)]
    return (LETTERS, tuple(deeds))


def pair(number, link):
    return (2 * number + 1, link[0], link[1])


def along(program, round_alone):
    """All tuples of pairs that lead along each order of each names, by trying; those that come round, or don't."""
    by_link, found = {}, []
    for one in pairs(program):
        by_link.setdefault(one[1:], []).append(one)
    for many in range(1, len(program[0]) + 1):
        for names in itertools.permutations(program[0], many):
            if round_alone and names[0] != min(names):
                continue
            links = list(zip(names, names[1:] + names[:1] if round_alone else names[1:]))
            if links and all(link in by_link for link in links):
                found.extend(itertools.product(*[by_link[link] for link in links]))
    return found


def rings_by_trying(program):
    return along(program, True)


def chains_by_trying(program):
    return [()] + along(program, False)


def drawn_text(chance, most):
    """Links by chance: any, or such that rise in some order of the names, or a few of unlike names."""
    sort = chance.randint(0, 2)
    if sort == 2:
        return text_of(*["".join(chance.sample(LETTERS, 2)) for _ in range(chance.randint(0, most // 2))])
    links = [chance.choice(LETTERS) + chance.choice(LETTERS) for _ in range(chance.randint(0, most))]
    if sort == 1:
        order = chance.sample(LETTERS, len(LETTERS))
        links = ["".join(sorted(link, key=order.index)) for link in links]
    return text_of(*links)


def drawn_programs():
    for number in range(300):
        yield drawn_text(seeded(number), 14)
    for number in range(100):
        yield random_program(seeded(number))
        yield crowded_program(seeded(number))


class TestTextRing(unittest.TestCase):
    def check(self, program, told):
        self.assertEqual(text_ring(program), told)
        self.assertEqual(told, min(rings_by_trying(program), key=lambda ring: (len(ring), ring), default=None))
        if told is not None:
            self.assertIs(shows_text_ring(program, told), True)

    def test_none(self):
        self.check(text_of(), None)
        self.check(text_of("ab"), None)
        self.check(text_of("ab", "bc", "ac", "df", "de", "ef", "af"), None)

    def test_of_one_pair(self):
        self.check(text_of("aa"), ((1, "a", "a"),))
        self.check(text_of("ab", "ff", "ee"), (pair(1, "ff"),))

    def test_of_two_pairs(self):
        self.check(text_of("ab", "ba"), (pair(0, "ab"), pair(1, "ba")))
        self.check(text_of("ba", "ab"), (pair(1, "ab"), pair(0, "ba")))
        self.check(text_of("fc", "cd", "cf"), (pair(2, "cf"), pair(0, "fc")))

    def test_of_more_pairs(self):
        self.check(text_of("ca", "bc", "ab"), (pair(2, "ab"), pair(1, "bc"), pair(0, "ca")))
        self.check(text_of("cb", "ba", "ac"), (pair(2, "ac"), pair(0, "cb"), pair(1, "ba")))
        links = ("ef", "cd", "fa", "bc", "ab", "de")
        ring = (pair(4, "ab"), pair(3, "bc"), pair(1, "cd"), pair(5, "de"), pair(0, "ef"), pair(2, "fa"))
        self.check(text_of(*links), ring)

    def test_the_shortest_first(self):
        self.check(text_of("ab", "bc", "ca", "de", "ed"), (pair(3, "de"), pair(4, "ed")))
        self.check(text_of("ab", "ba", "cc"), (pair(2, "cc"),))
        self.check(text_of("ab", "bc", "cd", "da", "ca"), (pair(0, "ab"), pair(1, "bc"), pair(4, "ca")))

    def test_of_one_size_as_tuples_rise(self):
        self.check(text_of("ef", "fe", "ab", "ba"), (pair(0, "ef"), pair(1, "fe")))
        self.check(text_of("fe", "ab", "ba", "ef"), (pair(1, "ab"), pair(2, "ba")))
        self.check(text_of("ca", "ab", "ac", "ba"), (pair(1, "ab"), pair(3, "ba")))
        self.check(text_of("ff", "aa"), (pair(0, "ff"),))

    def test_several_in_one_row(self):
        locks = (("c", ("", 0)), ("b", ("", 0)), ("a", ("", 0)))
        row = ("all", locks, (("all", locks, ()),))
        self.check((LETTERS, (("go", (), (row,)),)), ((1, "a", "a"),))
        row = ("all", locks[1:], (("all", (locks[0], ("d", ("", 0))), ()),))
        back = ("all", (locks[0], ("d", ("", 0))), (("all", locks[1:], ()),))
        self.check((LETTERS, (("go", (), (row, back)),)), ((1, "a", "c"), (3, "c", "a")))

    def test_several_pairs_between_the_same_names(self):
        links = ("ba", "ab", "ab", "ba", "ba")
        self.check(text_of(*links), (pair(1, "ab"), pair(0, "ba")))

    def test_of_drawn_programs(self):
        sizes = set()
        for program in drawn_programs():
            told = text_ring(program)
            self.check(program, told)
            sizes.add(told and len(told))
        self.assertLessEqual({None, 1, 2, 3}, sizes)

    def test_by_names_and_nothing_changed(self):
        program = text_of("ab", "ba")
        kept = copy.deepcopy(program)
        self.assertEqual(text_ring(program=program), text_ring(program))
        self.assertEqual(program, kept)
        self.assertTrue(all(type(thing) is tuple for thing in (text_ring(program), text_ring(program)[0])))


class TestChain(unittest.TestCase):
    def check(self, program, told):
        self.assertEqual(chain(program), told)
        if any(len(ring) > 1 for ring in rings_by_trying(program)):
            self.assertIsNone(told)
        else:
            self.assertEqual(told, min(chains_by_trying(program), key=lambda one: (-len(one), one)))
            self.assertIs(shows_chain(program, told), True)

    def test_nothing_where_there_are_no_pairs(self):
        self.check(text_of(), ())
        self.check(program_of(SAY, ("all", (A, B), ())), ())

    def test_nothing_where_all_pairs_are_of_one_name(self):
        self.check(text_of("aa"), ())
        self.check(text_of("aa", "cc", "aa", "bb"), ())

    def test_the_longest(self):
        self.check(text_of("ab"), (pair(0, "ab"),))
        self.check(text_of("ab", "cd", "bc", "ad"), (pair(0, "ab"), pair(2, "bc"), pair(1, "cd")))
        self.check(text_of("fe", "ba", "ed", "dc", "cb"),
                   (pair(0, "fe"), pair(2, "ed"), pair(3, "dc"), pair(4, "cb"), pair(1, "ba")))
        self.check(text_of("ab", "ac", "cd"), (pair(1, "ac"), pair(2, "cd")))

    def test_of_the_longest_the_first_as_tuples_rise(self):
        self.check(text_of("ef", "ab"), (pair(0, "ef"),))
        self.check(text_of("bc", "ab", "de", "ef"), (pair(1, "ab"), pair(0, "bc")))
        self.check(text_of("ef", "ab", "bc", "de"), (pair(1, "ab"), pair(2, "bc")))
        self.check(text_of("bc", "ef", "de", "ab"), (pair(2, "de"), pair(1, "ef")))
        self.check(text_of("ac", "ab", "bd", "cd"), (pair(0, "ac"), pair(3, "cd")))
        self.check(text_of("ab", "bd", "bc"), (pair(0, "ab"), pair(1, "bd")))

    def test_several_pairs_between_the_same_names(self):
        self.check(text_of("bc", "ab", "ab", "bc", "ab"), (pair(1, "ab"), pair(0, "bc")))

    def test_none_where_there_is_a_ring_of_two_or_more(self):
        self.check(text_of("ab", "ba"), None)
        self.check(text_of("aa", "ef", "bc", "cd", "db"), None)
        self.check(text_of("ab", "bc", "cd", "de", "ef", "fa"), None)

    def test_beside_a_ring_of_one(self):
        program = text_of("aa", "ab", "bb", "bc")
        self.check(program, (pair(1, "ab"), pair(3, "bc")))
        self.assertEqual(text_ring(program), (pair(0, "aa"),))

    def test_of_drawn_programs(self):
        sizes = set()
        for program in drawn_programs():
            told = chain(program)
            self.check(program, told)
            sizes.add(len(told) if told is not None else None)
        self.assertLessEqual({None, 0, 1, 2, 3, 4}, sizes)

    def test_of_all_names_in_rows_of_all_sorts(self):
        locks = tuple((letter, ("", 0)) for letter in LETTERS)
        row = ("within", locks[5], (("all", locks[3:5], (("ask", locks[2], (("all", locks[:2], ()),), ()),)),))
        program = (LETTERS, (("go", (), (row,)),))
        self.check(program, (((1, "f", "d"), (3, "d", "a"))))

    def test_by_names_and_nothing_changed(self):
        program = text_of("ab", "bc")
        kept = copy.deepcopy(program)
        self.assertEqual(chain(program=program), chain(program))
        self.assertEqual(program, kept)
        self.assertTrue(all(type(thing) is tuple for thing in (chain(program), chain(program)[0])))


class TestShowsTextRing(unittest.TestCase):
    links = ("ab", "ba", "ab", "bc", "ca", "cc", "de")
    program = text_of(*links)
    right_ones = (
        (pair(5, "cc"),),
        (pair(0, "ab"), pair(1, "ba")), (pair(2, "ab"), pair(1, "ba")),
        (pair(0, "ab"), pair(3, "bc"), pair(4, "ca")), (pair(2, "ab"), pair(3, "bc"), pair(4, "ca")),
    )

    def wrong(self, thing):
        self.assertIs(shows_text_ring(self.program, thing), False)

    def test_what_is_told_and_right_ones_that_arent(self):
        self.assertEqual(text_ring(self.program), self.right_ones[0])
        for ring in self.right_ones:
            self.assertIs(shows_text_ring(self.program, ring), True)
        self.assertEqual(set(rings_by_trying(self.program)), set(self.right_ones))

    def test_none(self):
        self.wrong(())
        self.wrong(None)

    def test_begun_at_another_name(self):
        for ring in self.right_ones:
            for place in range(1, len(ring)):
                self.wrong(ring[place:] + ring[:place])

    def test_a_name_twice(self):
        for ring in self.right_ones:
            self.wrong(ring + ring)
        self.wrong((pair(0, "ab"), pair(3, "bc"), pair(5, "cc"), pair(4, "ca")))
        self.wrong((pair(0, "ab"), pair(1, "ba"), pair(2, "ab"), pair(1, "ba")))
        self.wrong((pair(0, "ab"), pair(1, "ba"), pair(2, "ab"), pair(3, "bc"), pair(4, "ca")))

    def test_not_closed(self):
        self.wrong((pair(0, "ab"),))
        self.wrong((pair(0, "ab"), pair(3, "bc")))
        self.wrong((pair(6, "de"),))
        self.wrong((pair(0, "ab"), pair(3, "bc"), pair(5, "cc")))

    def test_not_linked(self):
        self.wrong((pair(0, "ab"), pair(4, "ca")))
        self.wrong((pair(0, "ab"), pair(4, "ca"), pair(3, "bc")))
        self.wrong((pair(0, "ab"), pair(6, "de"), pair(1, "ba")))

    def test_a_pair_that_is_none(self):
        for number in (-1, 0, 2, 3, 4, 13, 100, 10 ** 30):
            self.wrong(((number, "a", "b"), pair(1, "ba")))
        self.wrong(((11, "a", "a"),))
        self.wrong(((1, "a", "a"),))
        self.wrong((("a", 11, "a"),))

    def test_each_with_one_thing_otherwise(self):
        for ring in self.right_ones:
            for place in range(len(ring)):
                for number in range(-1, 15):
                    for link in itertools.product("abcd", repeat=2):
                        thing = replaced(ring, (place,), (number,) + link)
                        self.assertIs(shows_text_ring(self.program, thing), thing in self.right_ones)

    def test_things_of_any_kind_in_any_place(self):
        for ring in self.right_ones:
            for path in places(ring):
                for thing in anything():
                    self.wrong(replaced(ring, path, thing))
            for thing in anything():
                self.wrong(ring + (thing,))
                self.wrong((thing,) + ring)
            for thing in of_other_kinds(ring) + [ring[0], (ring,), tuple(one + (0,) for one in ring)]:
                self.wrong(thing)

    def test_just_the_text_rings_of_drawn_programs(self):
        for number in range(100):
            chance = seeded(number)
            program = drawn_text(chance, 10)
            some, right = pairs(program), set(rings_by_trying(program))
            for ring in sorted(right)[:30]:
                self.assertIs(shows_text_ring(program, ring), True)
            for _ in range(30 if some else 0):
                thing = tuple(chance.choice(some) for _ in range(chance.randint(1, 3)))
                self.assertIs(shows_text_ring(program, thing), thing in right)

    def test_by_names_and_again(self):
        for _ in range(2):
            self.assertIs(shows_text_ring(program=self.program, thing=self.right_ones[1]), True)


class TestShowsChain(unittest.TestCase):
    links = ("ab", "bc", "aa", "cd", "ab", "ef", "ac")
    program = text_of(*links)
    longest = (pair(0, "ab"), pair(1, "bc"), pair(3, "cd"))

    def right(self, thing, program=None):
        self.assertIs(shows_chain(program or self.program, thing), True)

    def wrong(self, thing, program=None):
        self.assertIs(shows_chain(program or self.program, thing), False)

    def test_what_is_told_and_right_ones_that_arent(self):
        self.assertEqual(chain(self.program), self.longest)
        self.right(self.longest)
        for thing in ((), (pair(0, "ab"),), (pair(4, "ab"), pair(1, "bc")), (pair(1, "bc"), pair(3, "cd")),
                      (pair(4, "ab"), pair(1, "bc"), pair(3, "cd")), (pair(6, "ac"), pair(3, "cd")), (pair(5, "ef"),)):
            self.right(thing)

    def test_nothing_is_one_in_any_program(self):
        for program in (text_of(), text_of("aa"), text_of("ab", "ba"), program_of()):
            self.right((), program)

    def test_where_there_is_a_ring_of_two_or_more(self):
        program = text_of("ab", "bc", "ca")
        self.assertIsNone(chain(program))
        self.right((pair(0, "ab"), pair(1, "bc")), program)
        self.right((pair(2, "ca"), pair(0, "ab")), program)
        self.right((pair(1, "bc"), pair(2, "ca")), program)
        self.wrong((pair(0, "ab"), pair(1, "bc"), pair(2, "ca")), program)

    def test_a_name_twice(self):
        self.wrong((pair(2, "aa"),))
        self.wrong((pair(2, "aa"), pair(0, "ab")))
        self.wrong((pair(2, "aa"), pair(2, "aa")))
        program = text_of("ab", "ba")
        self.wrong((pair(0, "ab"), pair(1, "ba")), program)
        self.wrong((pair(0, "ab"), pair(1, "ba"), pair(0, "ab")), program)
        program = text_of("ab", "bc", "cb")
        self.wrong((pair(0, "ab"), pair(1, "bc"), pair(2, "cb")), program)

    def test_not_linked(self):
        self.wrong((pair(0, "ab"), pair(3, "cd")))
        self.wrong((pair(1, "bc"), pair(0, "ab")))
        self.wrong((pair(0, "ab"), pair(4, "ab")))
        self.wrong((pair(0, "ab"), pair(5, "ef")))

    def test_a_pair_that_is_none(self):
        self.wrong(((1, "a", "c"),))
        self.wrong(((0, "a", "b"),))
        self.wrong(((1, "b", "a"),))
        self.wrong((pair(0, "ab"), (3, "b", "d")))
        self.wrong((pair(0, "ab"),), text_of("ac"))

    def test_each_with_one_thing_otherwise(self):
        right = set(chains_by_trying(self.program))
        for place in range(3):
            for number in range(-1, 15):
                for link in itertools.product("abcd", repeat=2):
                    thing = replaced(self.longest, (place,), (number,) + link)
                    self.assertIs(shows_chain(self.program, thing), thing in right)

    def test_things_of_any_kind_in_any_place(self):
        for path in places(self.longest):
            for thing in anything():
                self.wrong(replaced(self.longest, path, thing))
        for thing in anything():
            self.wrong(self.longest + (thing,))
            self.wrong((thing,) + self.longest)
        for thing in of_other_kinds(self.longest) + [self.longest[0], (self.longest,), None, [], "", {}]:
            self.wrong(thing)

    def test_just_the_chains_of_drawn_programs(self):
        for number in range(100):
            chance = seeded(number)
            program = drawn_text(chance, 10)
            some, right = pairs(program), set(chains_by_trying(program))
            for thing in sorted(right)[:30]:
                self.right(thing, program)
            for _ in range(30 if some else 0):
                thing = tuple(chance.choice(some) for _ in range(chance.randint(1, 3)))
                self.assertIs(shows_chain(program, thing), thing in right)

    def test_by_names_and_again(self):
        for _ in range(2):
            self.assertIs(shows_chain(program=self.program, thing=self.longest), True)


if __name__ == "__main__":
    unittest.main()
