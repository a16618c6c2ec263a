"""INTEGERS and COUNTS: point 2 of the document."""

import unittest

from aheadsums.basics import is_count, is_integer
from aheadsums.ratios import is_number
from tests.helping import Case, no_counts, no_integers, no_numbers
from aheadsums.ratios import Ratio

COUNTS = [0, 1, 2, 8, 41, 10 ** 6, 10 ** 30, 10 ** 400]
INTEGERS = COUNTS + [-1, -2, -10 ** 30, -10 ** 400]


class BasicsTest(Case):
    def test_integers(self):
        for value in INTEGERS:
            self.assertIs(is_integer(value), True)
            self.assertIs(is_integer(value=value), True)

    def test_true_and_false_are_no_integers(self):
        for value in (True, False):
            self.assertIs(is_integer(value), False)
            self.assertIs(is_count(value), False)
            self.assertIs(is_number(value), False)

    def test_whatever_else_is_no_integer(self):
        for value in no_integers():
            self.assertIs(is_integer(value), False)
            self.assertIs(is_integer(value=value), False)

    def test_counts(self):
        for value in COUNTS:
            self.assertIs(is_count(value), True)
            self.assertIs(is_count(value=value), True)

    def test_below_0_there_is_no_count(self):
        for value in (-1, -2, -10 ** 30):
            self.assertIs(is_count(value), False)

    def test_whatever_else_is_no_count(self):
        for value in no_counts():
            self.assertIs(is_count(value), False)
            self.assertIs(is_count(value=value), False)

    def test_a_ratio_is_no_integer_and_no_count_of_whatever_worth(self):
        for value in (Ratio(0), Ratio(1), Ratio(6, 3), Ratio(-2), Ratio(1, 2)):
            self.assertIs(is_integer(value), False)
            self.assertIs(is_count(value), False)

    def test_numbers(self):
        for value in INTEGERS + [Ratio(0), Ratio(1), Ratio(-3, 7), Ratio(10 ** 400, 7)]:
            self.assertIs(is_number(value), True)
            self.assertIs(is_number(value=value), True)

    def test_whatever_else_is_no_number(self):
        for value in no_numbers():
            self.assertIs(is_number(value), False)
            self.assertIs(is_number(value=value), False)


if __name__ == "__main__":
    unittest.main()
