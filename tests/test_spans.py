"""Lists of INTEGERS, and which of them are sums of multiples of others."""

import random
import unittest
from fractions import Fraction

from aheadsums.ratios import Ratio
from aheadsums.spans import are_noughts, dot, left_over, scaled
from tests.helping import Case, fraction


def rank_of(rows):
    """How many rows are independent, by elimination with Fractions."""
    left, rank = [[Fraction(number) for number in row] for row in rows], 0
    for at in range(len(rows[0]) if rows else 0):
        found = [row for row in left if row[at] != 0]
        if found:
            pivot = found[0]
            left = [row for row in left if row is not pivot]
            left = [[one - row[at] / pivot[at] * two for one, two in zip(row, pivot)] for row in left]
            rank += 1
    return rank


class SpansTest(Case):
    def test_scaled(self):
        chance = random.Random(3)
        for _ in range(100):
            numbers = [Ratio(chance.randrange(-20, 20), chance.randrange(1, 12)) for _ in range(chance.randrange(6))]
            scale, wholes = scaled(numbers)
            self.assertEqual(scale.sign, 1)
            self.assertEqual([fraction(scale) * whole for whole in wholes], [fraction(number) for number in numbers])
        self.assertEqual(scaled([Ratio(4), Ratio(-6)]), (Ratio(2), [2, -3]))
        self.assertEqual(scaled([Ratio(1, 2), Ratio(0), Ratio(2, 3)]), (Ratio(1, 6), [3, 0, 4]))
        self.assertEqual([scaled([]), scaled([Ratio(0)])], [(Ratio(1), []), (Ratio(1), [0])])

    def test_what_is_left_over(self):
        chance = random.Random(4)
        for _ in range(150):
            many, rows, passed = chance.randrange(1, 6), [], []
            for _ in range(8):
                numbers = [chance.randrange(-2, 3) for _ in range(many)]
                left = left_over(rows, numbers)
                self.assertIs(are_noughts(left), rank_of(passed + [numbers]) == rank_of(passed))
                self.assertEqual(rank_of(rows + [left]), rank_of(rows + [numbers]))
                passed.append(numbers)
                if not are_noughts(left):
                    rows.append(left)
            self.assertEqual(rank_of(rows), len(rows))

    def test_dot(self):
        self.same([dot([], []), dot([1, -2], [3, 4]), are_noughts([]), are_noughts([0, 0]), are_noughts([0, 1])],
                  [0, -5, True, True, False])


if __name__ == "__main__":
    unittest.main()
