"""Point 2 and the interface's row on errors.py."""

import unittest

from neverstuck import errors
from neverstuck.errors import NoLine, NoLock, NoRow, NoStep, NoText, StuckError

REFUSALS = (NoStep, NoRow, NoLock, NoText, NoLine)


class TestErrors(unittest.TestCase):
    def test_stands_straight_under_value_error(self):
        self.assertEqual(StuckError.__bases__, (ValueError,))

    def test_refusals_stand_straight_under_stuck_error(self):
        for refusal in REFUSALS:
            self.assertEqual(refusal.__bases__, (StuckError,))

    def test_no_refusal_stands_under_another(self):
        for one in REFUSALS:
            for other in REFUSALS:
                self.assertEqual(issubclass(one, other), one is other)

    def test_there_are_no_other_errors(self):
        told = {thing for thing in vars(errors).values() if isinstance(thing, type)}
        self.assertEqual(told, set(REFUSALS) | {StuckError})

    def test_place_of_no_step(self):
        for place in (0, 3, 10 ** 20):
            self.assertEqual(NoStep(place).place, place)
            self.assertEqual(NoStep(place=place).place, place)

    def test_place_is_kept_when_raised(self):
        with self.assertRaises(StuckError) as caught:
            raise NoStep(7)
        self.assertEqual(caught.exception.place, 7)

    def test_others_are_made_with_a_text(self):
        for refusal in (NoRow, NoLock, NoText, NoLine):
            with self.assertRaises(ValueError) as caught:
                raise refusal("why not")
            self.assertIs(type(caught.exception), refusal)
            self.assertEqual(str(caught.exception), "why not")


if __name__ == "__main__":
    unittest.main()
