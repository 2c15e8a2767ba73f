"""Points 8 and 3 (e): reasons and the look at them."""

import copy
import unittest

from neverstuck.facts import follows, holds
from neverstuck.reasonlooks import shows_reason
from neverstuck.reasons import reason
from tests.helpers import Loud, anything, places, random_fact, random_facts, replaced, seeded

MOST = 10 ** 9
CHAIN = (("r", "s", -5), ("p", "q", 3), ("s", "", 1), ("q", "r", 1))
ROUND = (("r", "s", 0), ("p", "q", 1), ("q", "p", -2))


def is_such(facts, fact, told):
    """Whether a told reason is one, read straight from the words of the point."""
    if told[0] == "so":
        some = [facts[number] for number in told[1]]
        linked = all(some[at][1] == some[at + 1][0] for at in range(len(some) - 1))
        total = sum(one[2] for one in some)
        ends = (some[0][0], some[-1][1])
        return linked and (ends == fact[:2] and total <= fact[2] or ends[0] == ends[1] and total < 0)
    words = {word for one in facts + (fact,) for word in one[:2]} - {""}
    numbers = dict(told[1])
    right = list(told[1]) == sorted(told[1]) and set(numbers) == words and len(told[1]) == len(words)
    return right and all(holds(one, numbers) for one in facts) and not holds(fact, numbers)


class TestReason(unittest.TestCase):
    def check(self, facts, fact, word):
        told = reason(facts, fact)
        self.assertEqual(told[0], word)
        self.assertTrue(is_such(facts, fact, told), (facts, fact, told))
        self.assertIs(shows_reason(facts, fact, told), True)
        self.assertIs(follows(facts, fact), word == "so")
        self.assertEqual(told, reason(facts, fact))
        return told

    def test_a_chain(self):
        self.assertEqual(self.check(CHAIN, ("p", "", 0), "so"), ("so", (1, 3, 0, 2)))
        self.assertEqual(self.check(CHAIN, ("q", "s", 4), "so"), ("so", (3, 0)))

    def test_a_round(self):
        for fact in (("p", "q", -MOST), ("t", "u", -MOST), ("", "p", 0), ("r", "s", -1)):
            told = self.check(ROUND, fact, "so")
            self.assertIn(told, (("so", (1, 2)), ("so", (2, 1))))

    def test_a_round_away_from_the_fact(self):
        facts = (("p", "q", 0), ("s", "t", 4), ("t", "u", -9), ("u", "s", 4), ("q", "s", 0))
        self.check(facts, ("p", "q", -1), "so")
        self.check(facts, ("q", "p", 0), "so")

    def test_numbers_against_a_fact(self):
        self.check(CHAIN, ("p", "", -1), "not")
        self.check(CHAIN, ("", "p", MOST), "not")
        self.check((("p", "q", 1), ("q", "p", -1)), ("p", "q", 0), "not")

    def test_numbers_of_words_of_the_fact_alone(self):
        told = self.check((("p", "q", 0),), ("r", "s", 7), "not")
        self.assertEqual([word for word, number in told[1]], ["p", "q", "r", "s"])

    def test_a_fact_that_follows_of_itself(self):
        self.assertEqual(self.check((("p", "q", -3),), ("p", "q", -3), "so"), ("so", (0,)))
        self.check((("p", "q", 3), ("p", "q", 0), ("p", "q", 5)), ("p", "q", 0), "so")

    def test_by_no_facts(self):
        for fact in (("p", "q", 0), ("", "q", MOST), ("p", "", -MOST)):
            told = self.check((), fact, "not")
            self.assertEqual([word for word, number in told[1]], sorted(word for word in fact[:2] if word))

    def test_thirty_facts(self):
        words = ("a", "b", "c", "d", "e", "f")
        facts = tuple((x, y, 1) for x, y in reversed(list(zip(words, words[1:])))) * 6
        self.assertEqual(len(facts), 30)
        self.check(facts, ("a", "f", 5), "so")
        self.check(facts, ("a", "f", 4), "not")
        for number in range(300):
            chance = seeded(number)
            facts = random_facts(chance, 30, 5, ("",) + words)
            facts = tuple((x, y, c + chance.choice((0, 4))) for x, y, c in facts)
            fact = random_fact(chance, 5, ("",) + words)
            self.check(facts, fact, reason(facts, fact)[0])

    def test_great_c(self):
        words = ("", "p", "q", "r", "s", "t", "u")
        facts = tuple((x, y, -MOST) for x, y in zip(words, words[1:]))
        self.check(facts, ("", "u", -MOST), "so")
        self.check(facts, ("", "u", -6 * MOST), "so")
        self.check(facts, ("", "u", -6 * MOST - 1), "not")
        self.check(facts, ("u", "", MOST), "not")
        self.check(facts + (("u", "", MOST),), ("p", "q", -MOST), "so")
        self.check((("p", "q", MOST),), ("p", "q", MOST), "so")
        self.check((("p", "q", MOST),), ("p", "q", MOST - 1), "not")
        self.check((("p", "q", -MOST),), ("q", "p", MOST), "not")

    def test_of_some_facts_by_chance(self):
        words = set()
        for number in range(2000):
            chance = seeded(number)
            facts = random_facts(chance, chance.randint(0, 8), 4, ("", "p", "q", "r", "s", "t"))
            fact = random_fact(chance, 4, ("", "p", "q", "r", "s", "t", "u"))
            word = reason(facts, fact)[0]
            words.add(word)
            self.check(facts, fact, word)
        self.assertEqual(words, {"so", "not"})

    def test_by_names_and_nothing_changed(self):
        kept = copy.deepcopy(CHAIN)
        self.assertEqual(reason(facts=CHAIN, fact=("p", "", 0)), reason(CHAIN, ("p", "", 0)))
        self.assertEqual(CHAIN, kept)

    def test_kinds(self):
        for facts, fact in ((CHAIN, ("p", "", 0)), (ROUND, ("p", "", 0)), (CHAIN, ("p", "", -1))):
            told = reason(facts, fact)
            self.assertIs(type(told), tuple)
            self.assertIs(type(told[1]), tuple)


class TestShowsReason(unittest.TestCase):
    def right(self, facts, fact, thing):
        self.assertIs(shows_reason(facts, fact, thing), True)

    def wrong(self, facts, fact, thing):
        self.assertIs(shows_reason(facts, fact, thing), False)

    def test_right_chains_that_arent_told(self):
        facts = (("p", "q", 1), ("q", "p", 0), ("q", "r", 1), ("p", "r", 0))
        fact = ("p", "r", 4)
        self.right(facts, fact, ("so", (3,)))
        self.right(facts, fact, ("so", (0, 2)))
        self.right(facts, fact, ("so", (0, 1, 0, 2)))
        self.right(facts, fact, ("so", (0, 1, 0, 1, 0, 1, 3)))
        self.wrong(facts, fact, ("so", (0, 1, 0, 1, 0, 1, 0, 1, 0, 2)))

    def test_numbers_that_come_twice_in_a_round(self):
        self.right(ROUND, ("r", "s", -5), ("so", (1, 2)))
        self.right(ROUND, ("r", "s", -5), ("so", (2, 1)))
        self.right(ROUND, ("r", "s", -5), ("so", (1, 2) * 500))
        self.wrong(ROUND, ("r", "s", -5), ("so", (1, 2, 1)))

    def test_a_round_must_be_below_0(self):
        facts = (("p", "q", 1), ("q", "p", -1))
        self.wrong(facts, ("r", "s", -5), ("so", (0, 1)))
        self.wrong(facts, ("r", "s", 5), ("so", (0, 1)))

    def test_a_chain_must_be_no_more(self):
        self.right((("p", "q", 3),), ("p", "q", 3), ("so", (0,)))
        self.wrong((("p", "q", 3),), ("p", "q", 2), ("so", (0,)))

    def test_a_chain_must_be_linked_and_of_these_ends(self):
        fact = ("p", "", 0)
        self.right(CHAIN, fact, ("so", (1, 3, 0, 2)))
        for some in ((1, 0, 3, 2), (3, 0, 2), (1, 3, 0), (2, 0, 3, 1), (1, 2), (1, 0, 2), (0,)):
            self.wrong(CHAIN, fact, ("so", some))
        self.wrong((("q", "p", -5),), ("p", "q", 9), ("so", (0,)))

    def test_none_and_numbers_of_no_fact(self):
        self.wrong(CHAIN, ("p", "", 0), ("so", ()))
        self.wrong((), ("p", "", 0), ("so", ()))
        self.wrong((), ("p", "", 0), ("so", (0,)))
        self.wrong((("p", "q", 0),), ("p", "q", 0), ("so", (1,)))
        self.wrong((("p", "q", 0),), ("p", "q", 0), ("so", (-1,)))
        self.wrong((("p", "q", 0),), ("p", "q", 0), ("so", (False,)))
        self.wrong((("r", "q", 0), ("p", "q", 0)), ("p", "q", 0), ("so", (True,)))
        self.right((("r", "q", 0), ("p", "q", 0)), ("p", "q", 0), ("so", (1,)))

    def test_right_numbers_that_arent_told(self):
        facts = (("p", "q", 3),)
        fact = ("p", "q", 2)
        for q in (-5, 0, 10 ** 30):
            self.right(facts, fact, ("not", (("p", q + 3), ("q", q))))
            self.wrong(facts, fact, ("not", (("p", q + 2), ("q", q))))
            self.wrong(facts, fact, ("not", (("p", q + 4), ("q", q))))

    def test_pairs_of_each_word_once_and_rising(self):
        facts = (("p", "q", 3), ("", "r", 0))
        fact = ("p", "q", 2)
        right = (("p", 3), ("q", 0), ("r", 0))
        self.right(facts, fact, ("not", right))
        for pairs in (right[::-1], right[:2], right + (("s", 0),), right + (("r", 0),), (("", 0),) + right,
                      (("p", 3), ("p", 3), ("q", 0), ("r", 0)), (), (("p", 3), ("r", 0), ("q", 0)),
                      (("p", 3), ("q", False), ("r", 0)), (("p", 3), ["q", 0], ("r", 0)), list(right),
                      (("p", 3), ("q", 0, 0), ("r", 0)), (("p", 3), ("q",), ("r", 0)), dict(right)):
            self.wrong(facts, fact, ("not", pairs))

    def test_numbers_by_which_a_fact_doesnt_hold(self):
        facts = (("p", "q", 3), ("", "r", 0))
        self.wrong(facts, ("p", "q", 2), ("not", (("p", 3), ("q", 0), ("r", -1))))

    def test_other_words(self):
        for word in ("", "no", "So", "NOT", "so ", b"so", None, True, ("so",), Loud()):
            self.wrong(CHAIN, ("p", "", 0), (word, (1, 3, 0, 2)))
            self.wrong((), ("p", "", 0), (word, (("p", 1),)))
        self.wrong((), ("p", "", 0), ("so", (("p", 1),)))
        self.wrong(CHAIN, ("p", "", 0), ("not", (1, 3, 0, 2)))

    def test_things_of_any_kind_in_any_place(self):
        cases = ((CHAIN, ("p", "", 0), ("so", (1, 3, 0, 2))),
                 ((("p", "q", 3),), ("p", "q", 2), ("not", (("p", 3), ("q", 0)))))
        for facts, fact, right in cases:
            self.right(facts, fact, right)
            for path in places(right):
                for thing in anything():
                    self.wrong(facts, fact, replaced(right, path, thing))
            for thing in (right + (0,), right[:1], list(right), (right[0], list(right[1])), ()):
                self.wrong(facts, fact, thing)

    def test_each_with_one_number_otherwise(self):
        for at in range(4):
            for number in range(-1, 6):
                some = replaced((1, 3, 0, 2), (at,), number)
                self.assertIs(shows_reason(CHAIN, ("p", "", 0), ("so", some)), some == (1, 3, 0, 2))

    def test_by_names(self):
        self.assertIs(shows_reason(facts=CHAIN, fact=("p", "", 0), thing=("so", (1, 3, 0, 2))), True)


if __name__ == "__main__":
    unittest.main()
