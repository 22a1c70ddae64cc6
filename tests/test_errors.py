"""Point 2 and the interface: the refusals and how they stand to one another."""

import inspect
import unittest

from vatyard import errors
from vatyard.errors import (
    NoAmount, NoMeasure, NoMoment, NoName, NoPipe, NoRow, TooFull, TooLittle, TooWide, YardError,
)

REFUSALS = (NoRow, NoName, NoMeasure, NoPipe, NoAmount, NoMoment, TooWide, TooLittle, TooFull)


class TheRefusals(unittest.TestCase):
    def test_the_one_above_all_is_a_value_error(self):
        self.assertTrue(issubclass(YardError, ValueError))

    def test_each_stands_straight_under_it(self):
        for refusal in REFUSALS:
            with self.subTest(refusal=refusal):
                self.assertEqual(refusal.__bases__, (YardError,))

    def test_none_stands_under_another_one(self):
        for refusal in REFUSALS:
            above = [other for other in REFUSALS if other is not refusal and issubclass(refusal, other)]
            self.assertEqual(above, [])

    def test_each_bears_its_own_name(self):
        for refusal in REFUSALS + (YardError,):
            self.assertIs(getattr(errors, refusal.__name__), refusal)
        self.assertEqual(len(set(REFUSALS)), 9)

    def test_there_is_no_other_class_above_them(self):
        classes = [found for name, found in inspect.getmembers(errors, inspect.isclass)]
        self.assertEqual(set(classes), set(REFUSALS + (YardError,)))

    def test_each_can_be_raised_and_taken(self):
        for refusal in REFUSALS + (YardError,):
            with self.subTest(refusal=refusal):
                with self.assertRaises(refusal):
                    raise refusal("some words")
                with self.assertRaises(ValueError):
                    raise refusal("some words")
                with self.assertRaises(YardError):
                    raise refusal()


if __name__ == "__main__":
    unittest.main()
