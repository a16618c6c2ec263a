"""Lacings: points 25, 26 and 27 of the document."""

import random
import unittest
from collections import Counter
from itertools import product

from aheadsums.errors import InvalidColumns, InvalidMany, InvalidWord
from aheadsums.lacings import how_many, lacings
from aheadsums.ratios import Ratio
from aheadsums.tables import Table
from aheadsums.words import word_sum
from tests.helping import Case, fraction, no_columns, no_counts, no_words, rows_of, sum_over_choices


def ways(word, other):
    """The lacings of two words, one for each way to make them, straight from the definition."""
    if not word or not other:
        return [word + other]
    both = tuple(power + more for power, more in zip(word[0], other[0]))
    return ([(word[0],) + behind for behind in ways(word[1:], other)]
            + [(other[0],) + behind for behind in ways(word, other[1:])]
            + [(both,) + behind for behind in ways(word[1:], other[1:])])


def steps_through_grid(many, other):
    """How many ways there are through a grid, straight from the definition."""
    if many == 0 or other == 0:
        return 1
    return (steps_through_grid(many - 1, other) + steps_through_grid(many, other - 1)
            + steps_through_grid(many - 1, other - 1))


class HowManyTest(Case):
    def test_all_pairs_to_8(self):
        grid = [[1] * 9 for _ in range(9)]
        for one, other in product(range(1, 9), repeat=2):
            grid[one][other] = grid[one - 1][other] + grid[one][other - 1] + grid[one - 1][other - 1]
        for one, other in product(range(9), repeat=2):
            self.same(how_many(one, other), grid[one][other])
            self.same(how_many(other=other, many=one), grid[one][other])
        for one, other in product(range(5), repeat=2):
            self.same(how_many(one, other), steps_through_grid(one, other))

    def test_known_ones(self):
        self.same([how_many(0, 0), how_many(0, 8), how_many(8, 0), how_many(1, 1), how_many(8, 1), how_many(8, 8)],
                  [1, 1, 1, 3, 17, 265729])

    def test_errors(self):
        wrong = no_counts() + [9, 10, 10 ** 30]
        self.refuses_each(how_many, {"many": 2, "other": 3},
                          {"many": (InvalidMany, wrong), "other": (InvalidMany, wrong)})


class LacingsTest(Case):
    def check(self, columns, word, other):
        wanted = sorted(Counter(ways(word, other)).items())
        self.same(lacings(columns, word, other), wanted)
        self.same(sum([many for _, many in wanted]), how_many(len(word), len(other)))

    def test_all_words_of_two_letters(self):
        letters = [(0,), (1,), (2,)]
        words = [word for many in range(4) for word in product(letters, repeat=many)]
        for word in words:
            for other in words:
                if len(word) + len(other) <= 4:
                    self.check(1, word, other)

    def test_words_of_up_to_8_letters(self):
        chance = random.Random(25)
        for one, other in product(range(9), repeat=2):
            if how_many(one, other) <= 400:
                for columns in range(4):
                    first = tuple(tuple(chance.randrange(3) for _ in range(columns)) for _ in range(one))
                    second = tuple(tuple(chance.randrange(3) for _ in range(columns)) for _ in range(other))
                    self.check(columns, first, second)

    def test_like_letters_are_told_together(self):
        self.same(lacings(0, ((), ()), ((),)), [(((), ()), 2), (((), (), ()), 3)])
        self.same(lacings(1, ((1,), (1,)), ((1,),)),
                  [(((1,), (1,), (1,)), 3), (((1,), (2,)), 1), (((2,), (1,)), 1)])
        self.same(lacings(1, ((1,), (0,)), ((1,), (0,)))[0], (((1,), (0,), (1,), (0,)), 2))

    def test_the_empty_word(self):
        self.same(lacings(1, (), ()), [((), 1)])
        word = ((1,), (2,), (0,), (1,), (8,), (0,), (0,), (3,))
        self.same(lacings(1, word, ()), [(word, 1)])
        self.same(lacings(columns=1, word=(), other=word), [(word, 1)])

    def test_powers_to_16(self):
        self.same(lacings(1, ((8,),), ((8,),)), [(((8,), (8,)), 2), (((16,),), 1)])
        self.same(lacings(2, ((8, 1),), ((7, 8),)), [(((7, 8), (8, 1)), 1), (((8, 1), (7, 8)), 1), (((15, 9),), 1)])

    def test_products_of_sums(self):
        table = Table(2, [[2, 1], [Ratio(1, 2), -1], [0, 3], [5, Ratio(-2, 3)]])
        chance = random.Random(27)
        for _ in range(40):
            word, other = [tuple(tuple(chance.randrange(3) for _ in range(2)) for _ in range(chance.randrange(4)))
                           for _ in range(2)]
            found = sum([many * sum_over_choices(lacing, rows_of(table)) for lacing, many in lacings(2, word, other)])
            self.assertEqual(found, fraction(word_sum(table, word) * word_sum(table, other)))

    def test_at_most_400_ways(self):
        for one, other in product(range(9), repeat=2):
            word, further = ((0,),) * one, ((0,),) * other
            if how_many(one, other) <= 400:
                self.same(sum([many for _, many in lacings(1, word, further)]), how_many(one, other))
            else:
                self.too_many("lacings", 400, lacings, 1, word, further)

    def test_just_kept_and_just_passed(self):
        self.same(sum([many for _, many in lacings(0, ((),) * 3, ((),) * 6)]), 377)
        self.same(sum([many for _, many in lacings(0, ((),) * 4, ((),) * 4)]), 321)
        self.too_many("lacings", 400, lacings, 0, ((),) * 3, ((),) * 7)
        self.too_many("lacings", 400, lacings, 0, ((),) * 5, ((),) * 4)
        self.too_many("lacings", 400, lacings, 1, ((1,),) * 8, ((1,),) * 8)

    def test_what_is_told_is_new(self):
        self.is_new(lacings, 1, ((1,),), ((2,),))

    def test_errors(self):
        self.refuses_each(lacings, {"columns": 1, "word": ((1,),), "other": ((2,), (0,))},
                          {"columns": (InvalidColumns, no_columns()), "word": (InvalidWord, no_words()),
                           "other": (InvalidWord, no_words())})

    def test_too_many_comes_last(self):
        long = ((1,),) * 8
        self.refuses(InvalidWord, long + ((1,),), lacings, 1, long, long + ((1,),))
        self.refuses(InvalidWord, long, lacings, 2, long, long)
        self.refuses(InvalidColumns, 5, lacings, 5, long, long)


if __name__ == "__main__":
    unittest.main()
