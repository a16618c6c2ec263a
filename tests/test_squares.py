"""Squares with a determinant that is not 0, and rows that make such ones."""

import random
import unittest
from fractions import Fraction

from aheadsums.squares import PRIME, is_regular, telling_pairs
from tests.helping import Case, determinant_of, some_word, sum_over_choices


class RegularTest(Case):
    def test_against_determinants(self):
        chance = random.Random(83)
        for turn in range(200):
            many = turn % 6
            rows = [[chance.choice([0, 0, 1, -1, 2, 5]) for _ in range(many)] for _ in range(many)]
            if many and turn % 3 == 0:
                rows[-1] = [2 * one - other for one, other in zip(rows[0], rows[many // 2])]
            wanted = determinant_of([[Fraction(number) for number in row] for row in rows])
            self.assertIs(is_regular(rows), wanted != 0)

    def test_multiples_of_the_prime(self):
        self.same(PRIME, 2 ** 61 - 1)
        self.assertIs(is_regular([[PRIME]]), True)
        self.assertIs(is_regular([[PRIME + 1, 1], [1, 1]]), True)
        self.assertIs(is_regular([[PRIME, 2 * PRIME], [1, 2]]), False)
        self.assertIs(is_regular([[0, PRIME], [PRIME, 0]]), True)

    def test_great_numbers(self):
        great = 10 ** 200
        self.assertIs(is_regular([[great, great + 1], [great - 1, great]]), True)
        self.assertIs(is_regular([[great, great * 3], [great + 1, great * 3 + 3]]), False)

    def test_none(self):
        self.assertIs(is_regular([]), True)
        self.assertIs(is_regular([[0]]), False)


class TellingPairsTest(Case):
    def test_as_many_as_functions(self):
        chance = random.Random(84)
        for turn in range(80):
            columns = turn % 4
            keys = sorted({tuple(some_word(chance, columns, chance.randrange(3)) for _ in "ab") for _ in range(7)})
            functions = []
            for at in range(len(keys)):
                # Each function has a key of its own.
                if chance.randrange(4):
                    functions.append({key: chance.choice([1, -1, 2, 3]) for key in keys[at:]
                                      if chance.randrange(3) or key == keys[at]})
            pairs = telling_pairs(columns, functions)
            self.same(len(pairs), len(functions))
            square = [[self.worth_of(function, pair) for pair in pairs] for function in functions]
            self.assertNotEqual(determinant_of(square), 0)

    def worth_of(self, function, pair):
        ahead, behind = self.made(pair[0]), self.made(pair[1])
        return sum([number * sum_over_choices(one, ahead) * sum_over_choices(other, behind)
                    for (one, other), number in function.items()], Fraction(0))

    def made(self, rows):
        return [[Fraction(number) for number in row] for row in rows]

    def test_none(self):
        self.same(telling_pairs(2, []), [])

    def test_just_as_many_rows_as_letters(self):
        word, other = ((1,), (0,)), ((2,),)
        for ahead, behind in telling_pairs(1, [{(word, other): 3}, {(word, ()): 1, (word, other): 1}]):
            self.assertEqual(len(ahead), 2)
            self.assertIn(len(behind), (0, 1))


if __name__ == "__main__":
    unittest.main()
