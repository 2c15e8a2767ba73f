"""Points 7 and 3 (e): facts and what follows of them."""

import itertools
import unittest

from neverstuck.facts import fact_of, follows, holds, is_less
from neverstuck.terms import value_of
from tests.helpers import random_fact, random_facts, random_term, seeded

CANT_BE = (("p", "q", 1), ("q", "p", -2))


def follows_by_trying(facts, fact, reach):
    """Whether a fact holds wherever all facts do, of three words by numbers up to reach."""
    for numbers in itertools.product(range(-reach, reach + 1), repeat=3):
        by_word = dict(zip(("p", "q", "r"), numbers), **{"": 0})
        if all(by_word[x] <= by_word[y] + c for x, y, c in facts):
            if by_word[fact[0]] > by_word[fact[1]] + fact[2]:
                return False
    return True


class TestHolds(unittest.TestCase):
    def test_of_words(self):
        self.assertIs(holds(("p", "q", 2), {"p": 5, "q": 3}), True)
        self.assertIs(holds(("p", "q", 2), {"p": 6, "q": 3}), False)
        self.assertIs(holds(("p", "q", -2), {"p": 1, "q": 3}), True)
        self.assertIs(holds(("p", "q", -2), {"p": 2, "q": 3}), False)

    def test_of_the_empty_text(self):
        self.assertIs(holds(("", "q", -3), {"q": 3}), True)
        self.assertIs(holds(("", "q", -3), {"q": 2}), False)
        self.assertIs(holds(("p", "", 4), {"p": 4}), True)
        self.assertIs(holds(("p", "", 4), {"p": 5}), False)

    def test_great_numbers(self):
        self.assertIs(holds(("p", "q", 10 ** 9), {"p": 10 ** 30 + 10 ** 9, "q": 10 ** 30}), True)
        self.assertIs(holds(("p", "q", 10 ** 9), {"p": 10 ** 30 + 10 ** 9 + 1, "q": 10 ** 30}), False)

    def test_by_names_and_nothing_changed(self):
        numbers = {"p": 1, "q": 1}
        self.assertIs(holds(fact=("p", "q", 0), numbers=numbers), True)
        self.assertEqual(numbers, {"p": 1, "q": 1})


class TestFollows(unittest.TestCase):
    def test_by_one_fact(self):
        facts = (("p", "q", 3),)
        self.assertIs(follows(facts, ("p", "q", 3)), True)
        self.assertIs(follows(facts, ("p", "q", 4)), True)
        self.assertIs(follows(facts, ("p", "q", 2)), False)
        self.assertIs(follows(facts, ("q", "p", 3)), False)
        self.assertIs(follows(facts, ("q", "p", -3)), False)

    def test_by_a_chain(self):
        facts = (("r", "s", -5), ("p", "q", 3), ("s", "", 1), ("q", "r", 1))
        self.assertIs(follows(facts, ("p", "", 0)), True)
        self.assertIs(follows(facts, ("p", "", -1)), False)
        self.assertIs(follows(facts, ("q", "s", -4)), True)
        self.assertIs(follows(facts, ("q", "s", -5)), False)
        self.assertIs(follows(facts, ("", "p", 100)), False)

    def test_through_the_empty_text(self):
        facts = (("p", "", 5), ("", "q", -7))
        self.assertIs(follows(facts, ("p", "q", -2)), True)
        self.assertIs(follows(facts, ("p", "q", -3)), False)

    def test_by_the_least_of_several_chains(self):
        facts = (("p", "q", 1), ("q", "r", 1), ("p", "r", 5), ("p", "q", -1), ("q", "r", 9))
        self.assertIs(follows(facts, ("p", "r", 0)), True)
        self.assertIs(follows(facts, ("p", "r", -1)), False)

    def test_by_facts_that_cant_be(self):
        for fact in (("p", "q", -(10 ** 9)), ("r", "s", -5), ("", "p", 0), ("s", "", -1)):
            self.assertIs(follows(CANT_BE, fact), True)
            self.assertIs(follows((("r", "s", 0),) + CANT_BE, fact), True)

    def test_facts_that_just_can_be(self):
        facts = (("p", "q", 1), ("q", "p", -1))
        self.assertIs(follows(facts, ("p", "q", 0)), False)
        self.assertIs(follows(facts, ("p", "q", 1)), True)
        self.assertIs(follows(facts, ("q", "p", -1)), True)
        self.assertIs(follows(facts, ("q", "p", -2)), False)

    def test_by_none(self):
        self.assertIs(follows((), ("p", "q", 10 ** 9)), False)

    def test_of_words_that_stand_in_no_fact(self):
        self.assertIs(follows((("p", "q", 0),), ("r", "s", 10 ** 9)), False)
        self.assertIs(follows((("p", "q", 0),), ("p", "s", 10 ** 9)), False)
        self.assertIs(follows((("p", "q", 0),), ("r", "q", 10 ** 9)), False)

    def test_great_c(self):
        most = 10 ** 9
        words = ("", "p", "q", "r", "s", "t", "u")
        facts = tuple((x, y, -most) for x, y in zip(words, words[1:]))
        self.assertIs(follows(facts, ("", "u", -6 * most)), True)
        self.assertIs(follows(facts, ("", "u", -6 * most - 1)), False)
        self.assertIs(follows(facts + (("u", "", 6 * most),), ("p", "", 0)), False)
        self.assertIs(follows(facts + (("u", "", 6 * most - 1),), ("p", "", 0)), True)

    def test_thirty_facts_the_last_ones_first(self):
        words = ("a", "b", "c", "d", "e", "f")
        facts = tuple((x, y, 1) for x, y in reversed(list(zip(words, words[1:])))) * 6
        self.assertEqual(len(facts), 30)
        self.assertIs(follows(facts, ("a", "f", 5)), True)
        self.assertIs(follows(facts, ("a", "f", 4)), False)

    def test_as_numbers_say(self):
        for number in range(400):
            chance = seeded(number)
            facts = random_facts(chance, chance.randint(0, 6), 2)
            fact = random_fact(chance, 3)
            # Where numbers are against it, some are within the sum of all c's.
            self.assertIs(follows(facts, fact), follows_by_trying(facts, fact, 9), (facts, fact))

    def test_by_names_and_again(self):
        facts = (("p", "q", 3),)
        self.assertIs(follows(facts=facts, fact=("p", "q", 3)), True)
        self.assertIs(follows(facts=facts, fact=("p", "q", 3)), True)


class TestFactOf(unittest.TestCase):
    def test_fact_of(self):
        self.assertEqual(fact_of(("p", 0), ("q", 0), 0), ("p", "q", 0))
        self.assertEqual(fact_of(("p", 3), ("q", 10), 1), ("p", "q", 6))
        self.assertEqual(fact_of(("", 3), ("q", -10), 1), ("", "q", -14))
        self.assertEqual(fact_of(("p", -99), ("", 99), -5), ("p", "", 203))

    def test_it_says_just_that(self):
        for number in range(200):
            chance = seeded(number)
            one, other = [(word, chance.randint(-9, 9)) for word in chance.sample(("", "p", "q"), 2)]
            more = chance.randint(-9, 9)
            numbers = {"p": chance.randint(-9, 9), "q": chance.randint(-9, 9)}
            self.assertIs(holds(fact_of(one=one, other=other, more=more), numbers),
                          value_of(one, numbers) + more <= value_of(other, numbers))


class TestIsLess(unittest.TestCase):
    def test_unlike_words(self):
        facts = (("p", "q", -2),)
        self.assertIs(is_less(facts, ("p", 0), ("q", 0), 2), True)
        self.assertIs(is_less(facts, ("p", 0), ("q", 0), 3), False)
        self.assertIs(is_less(facts, ("p", 5), ("q", 4), 1), True)
        self.assertIs(is_less(facts, ("p", 5), ("q", 4), 2), False)
        self.assertIs(is_less(facts, ("q", 0), ("p", 0), 0), False)

    def test_a_word_and_none(self):
        facts = (("", "p", -3),)
        self.assertIs(is_less(facts, ("", 2), ("p", 0), 1), True)
        self.assertIs(is_less(facts, ("", 3), ("p", 0), 1), False)
        self.assertIs(is_less(facts, ("p", 0), ("", 99), 0), False)

    def test_one_word(self):
        for facts in ((), (("p", "q", 0),), (("q", "p", -5),)):
            self.assertIs(is_less(facts, ("p", 1), ("p", 2), 1), True)
            self.assertIs(is_less(facts, ("p", 1), ("p", 2), 2), False)
            self.assertIs(is_less(facts, ("p", 2), ("p", 1), -1), True)
            self.assertIs(is_less(facts, ("p", 2), ("p", 1), 0), False)

    def test_no_word(self):
        self.assertIs(is_less((), ("", 1), ("", 2), 1), True)
        self.assertIs(is_less((), ("", 1), ("", 2), 2), False)
        self.assertIs(is_less((("p", "", 0),), ("", 99), ("", -99), -198), True)
        self.assertIs(is_less((("p", "", 0),), ("", 99), ("", -99), -197), False)

    def test_by_facts_that_cant_be(self):
        for one, other in ((("p", 5), ("p", 0)), (("", 5), ("", 0)), (("r", 5), ("s", 0)), (("r", 5), ("r", 0))):
            self.assertIs(is_less(CANT_BE, one, other, 1), True)

    def test_as_numbers_say(self):
        for number in range(200):
            chance = seeded(number)
            facts = random_facts(chance, chance.randint(0, 4), 2)
            one, other = random_term(chance, ("p", "q")), random_term(chance, ("p", "q"))
            more = chance.randint(-2, 2)
            difference = (one[0], other[0], other[1] - one[1] - more)
            self.assertIs(is_less(facts=facts, one=one, other=other, more=more),
                          follows_by_trying(facts, difference, 9))


if __name__ == "__main__":
    unittest.main()
