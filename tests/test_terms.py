"""Point 4: terms and what they come to."""

import unittest

from neverstuck.terms import put_in, value_of


class TestValueOf(unittest.TestCase):
    def test_of_a_word_its_number_and_c(self):
        self.assertEqual(value_of(("p", 3), {"p": 4, "q": 100}), 7)
        self.assertEqual(value_of(("q", -99), {"p": 4, "q": 100}), 1)
        self.assertEqual(value_of(("p", 0), {"p": -5}), -5)

    def test_of_the_empty_text_c(self):
        self.assertEqual(value_of(("", 3), {"p": 4}), 3)
        self.assertEqual(value_of(("", -99), {}), -99)
        self.assertEqual(value_of(("", 0), {}), 0)

    def test_great_numbers(self):
        self.assertEqual(value_of(("p", 99), {"p": 10 ** 50}), 10 ** 50 + 99)
        self.assertEqual(value_of(("p", 10 ** 50), {"p": -(10 ** 50)}), 0)

    def test_by_names_and_nothing_changed(self):
        numbers = {"p": 4}
        self.assertEqual(value_of(term=("p", 1), numbers=numbers), 5)
        self.assertEqual(value_of(term=("p", 1), numbers=numbers), 5)
        self.assertEqual(numbers, {"p": 4})


class TestPutIn(unittest.TestCase):
    def test_a_word_gives_way_to_its_term(self):
        terms = {"p": ("q", 2), "q": ("p", -1)}
        self.assertEqual(put_in(("p", 3), terms), ("q", 5))
        self.assertEqual(put_in(("q", 3), terms), ("p", 2))

    def test_a_word_gives_way_to_a_figure(self):
        self.assertEqual(put_in(("p", 3), {"p": ("", 4)}), ("", 7))

    def test_a_figure_stays(self):
        self.assertEqual(put_in(("", 3), {"p": ("q", 2)}), ("", 3))
        self.assertEqual(put_in(("", -3), {}), ("", -3))

    def test_a_word_without_a_term_stays(self):
        self.assertEqual(put_in(("q", 3), {"p": ("r", 2)}), ("q", 3))

    def test_the_empty_text_is_no_word(self):
        self.assertEqual(put_in(("", 3), {"": ("q", 2)}), ("", 3))
        self.assertEqual(value_of(("", 3), {"": 2}), 3)

    def test_it_is_put_in_once(self):
        self.assertEqual(put_in(("p", 0), {"p": ("p", 1)}), ("p", 1))

    def test_c_beyond_the_bound(self):
        self.assertEqual(put_in(("p", 99), {"p": ("q", 99)}), ("q", 198))
        self.assertEqual(put_in(("p", -99), {"p": ("", -99)}), ("", -198))
        self.assertEqual(put_in(("p", 10 ** 30), {"p": ("q", 10 ** 30)}), ("q", 2 * 10 ** 30))

    def test_what_comes_is_the_sum_of_values(self):
        terms = {"p": ("q", -7), "q": ("", 5), "r": ("p", 0)}
        numbers = {"p": 11, "q": -3}
        for word in ("", "p", "q", "r"):
            within = {x: value_of(terms[x], numbers) for x in terms}
            self.assertEqual(value_of(put_in((word, 8), terms), numbers), value_of((word, 8), within))

    def test_by_names_and_nothing_changed(self):
        terms = {"p": ("q", 2)}
        told = put_in(term=("p", 3), terms=terms)
        self.assertEqual(told, put_in(("p", 3), terms))
        self.assertIs(type(told), tuple)
        self.assertEqual(terms, {"p": ("q", 2)})


if __name__ == "__main__":
    unittest.main()
