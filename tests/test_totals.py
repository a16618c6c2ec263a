"""Plain totals and polynomials: point 64 of the document."""

import random
import unittest
from fractions import Fraction

from aheadsums.errors import InvalidPolynomial, InvalidTable, InvalidTally
from aheadsums.orders import is_order_free, mean_of_orders
from aheadsums.ratios import Ratio
from aheadsums.tables import Table
from aheadsums.tallies import Tally, tally_plus, tally_product, tally_times
from aheadsums.totals import in_totals, polynomial_worth
from tests.helping import (Case, fraction, letters_of, no_numbers, no_tables, no_tallies, no_words, odd_values, rows_of,
                           some_table, some_tally, some_word, sum_over_choices, worth_of)

ALONE = Tally(1, [(((1,), (0,)), 2)])
BOTH = Tally(1, [(((0,), (1,)), 1), (((1,), (0,)), 1)])
FEW = Table(1, [[2], [Ratio(1, 2)], [3]])


def polynomial_at(polynomial, table):
    """What a polynomial comes to, out of choices of rows."""
    rows, whole = rows_of(table), Fraction(0)
    for words, number in polynomial:
        product = fraction(number)
        for word in words:
            product *= sum_over_choices(word, rows)
        whole += product
    return whole


def plain_product(columns, letters, factor):
    """The product of the plain totals of the letters, times the factor."""
    product = Tally(columns, [((), factor)])
    for letter in letters:
        product = tally_product(product, Tally(columns, [((letter,), 1)]))
    return product


class InTotalsTest(Case):
    def is_told(self, polynomial):
        """Told, in plain totals."""
        self.assertIs(type(polynomial), list)
        for words, number in polynomial:
            self.assertIs(type(words), list)
            self.same(words, sorted(words))
            self.assertEqual([len(word) for word in words], [1] * len(words))
            self.assertIsInstance(number, Ratio)
            self.assertNotEqual(number, Ratio(0))
        keys = [words for words, _ in polynomial]
        self.assertEqual(keys, sorted(keys))
        self.assertEqual(len(keys), len({tuple(words) for words in keys}))

    def test_means_over_all_orders(self):
        chance = random.Random(64)
        for turn in range(120):
            tally = mean_of_orders(some_tally(chance, turn % 4, 4))
            found = in_totals(tally)
            self.is_told(found)
            self.assertEqual(in_totals(tally=tally), found)
            table = some_table(chance, tally.columns, turn % 7)
            self.worth(polynomial_worth(table, found), worth_of(tally, table))
            self.assertEqual(polynomial_at(found, table), worth_of(tally, table))

    def test_just_one_polynomial(self):
        chance = random.Random(65)
        for turn in range(80):
            columns, wanted = turn % 4, {}
            tally = Tally(columns, [])
            for _ in range(3):
                letters = some_word(chance, columns, chance.randrange(5))
                factor = chance.choice([1, -1, Ratio(2, 3)])
                key = tuple(sorted((letter,) for letter in letters))
                wanted[key] = wanted.get(key, Ratio(0)) + factor
                tally = tally_plus(tally, plain_product(columns, letters, factor))
            self.same(in_totals(tally), [(list(key), wanted[key]) for key in sorted(wanted) if wanted[key].sign])

    def test_none_of_what_hangs_on_the_order(self):
        chance = random.Random(66)
        for turn in range(100):
            tally = some_tally(chance, turn % 4, 4)
            self.assertIs(in_totals(tally) is None, not is_order_free(tally))
        self.assertIsNone(in_totals(ALONE))

    def test_known_ones(self):
        self.same(in_totals(BOTH), [([((0,),), ((1,),)], Ratio(1)), ([((1,),)], Ratio(-1))])
        self.same(in_totals(Tally(1, [(((1,), (1,)), 1)])), [([((1,),), ((1,),)], Ratio(1, 2)),
                                                             ([((2,),)], Ratio(-1, 2))])
        x, x2, x3 = ((1,),), ((2,),), ((3,),)
        self.same(in_totals(Tally(1, [(x + x + x, 6)])),
                  [([x, x, x], Ratio(1)), ([x, x2], Ratio(-3)), ([x3], Ratio(2))])
        self.same([in_totals(Tally(2, [])), in_totals(Tally(2, [((), -3)]))], [[], [([], Ratio(-3))]])
        self.same(in_totals(Tally(2, [(((1, 0),), 2), ((), 1)])), [([], Ratio(1)), ([((1, 0),)], Ratio(2))])

    def test_choices_of_5_rows(self):
        count = ((),)
        wanted = [([count], Ratio(24, 120)), ([count] * 2, Ratio(-50, 120)), ([count] * 3, Ratio(35, 120)),
                  ([count] * 4, Ratio(-10, 120)), ([count] * 5, Ratio(1, 120))]
        self.same(in_totals(Tally(0, [(((),) * 5, 1)])), wanted)
        self.worth(polynomial_worth(Table(0, [[]] * 40), wanted), 658008)

    def test_powers_to_40(self):
        found = in_totals(Tally(1, [(((8,),) * 5, 120)]))
        self.same(len(found), 7)
        self.assertIn(([((40,),)], Ratio(24)), found)
        table = Table(1, [[2], [1], [-1], [Ratio(1, 2)], [3], [0]])
        self.worth(polynomial_worth(table, found), worth_of(Tally(1, [(((8,),) * 5, 120)]), table))

    def test_unlike_letters(self):
        five = tuple((power,) for power in range(5))
        tally = mean_of_orders(Tally(1, [(five, 120)]))
        found = in_totals(tally)
        self.is_told(found)
        self.assertIn(([(letter,) for letter in five], Ratio(1)), found)
        self.assertIn(([((10,),)], Ratio(24)), found)
        table = Table(1, [[2], [-1], [5], [Ratio(1, 3)], [3], [-2]])
        self.worth(polynomial_worth(table, found), worth_of(tally, table))

    def test_at_most_5_letters(self):
        for many in (6, 7, 8):
            for letters in (((0,),) * many, ((0,),) * (many - 1) + ((1,),)):
                self.too_many("letters", 5, in_totals, Tally(1, [(letters, 1)]))
                self.too_many("letters", 5, in_totals, Tally(1, [(letters, 1), ((), 3)]))
        self.assertIsNone(in_totals(Tally(1, [(((0,),) * 4 + ((1,),), 1)])))

    def test_400_lots(self):
        letters = letters_of(3, range(8))[:400]
        found = in_totals(Tally(3, [((letter,), 2) for letter in letters]))
        self.same(found, [([(letter,)], Ratio(2)) for letter in letters])
        found = in_totals(Tally(3, [((letter,) * 5, 1) for letter in letters]))
        self.is_told(found)
        self.assertGreater(len(found), 400)

    def test_what_is_told_is_new(self):
        self.is_new(in_totals, BOTH)

    def test_errors(self):
        self.refuses_each(in_totals, {"tally": BOTH}, {"tally": (InvalidTally, no_tallies())})


class WorthTest(Case):
    def test_against_choices_of_rows(self):
        chance = random.Random(67)
        for turn in range(100):
            columns = turn % 4
            polynomial = [([some_word(chance, columns, chance.randrange(4)) for _ in range(chance.randrange(4))],
                           chance.choice([0, 1, -2, Ratio(1, 2), Ratio(-5, 3)])) for _ in range(chance.randrange(5))]
            table = some_table(chance, columns, turn % 6)
            wanted = polynomial_at(polynomial, table)
            self.worth(self.leaves(polynomial_worth, table, polynomial), wanted)
            self.worth(polynomial_worth(polynomial=tuple((tuple(words), number) for words, number in polynomial[::-1]),
                                        table=table), wanted)

    def test_in_any_sequence_and_twice(self):
        x, y = ((1,),), ((0,), (2,))
        self.worth(polynomial_worth(FEW, [([y, x], 1), ([x], 2), ([x, y], -1), ([x], Ratio(1, 2)), ([], 7), ([], 0)]),
                   Fraction(5, 2) * Fraction(11, 2) + 7)
        self.worth(polynomial_worth(FEW, []), 0)
        self.worth(polynomial_worth(FEW, [([()], 5), ([(), ()], 1), ([], 1)]), 7)
        self.worth(polynomial_worth(Table(0, []), [([((),)], 5), ([], Ratio(1, 3))]), Fraction(1, 3))

    def test_great_ones(self):
        high = ((40,),) * 8
        self.worth(polynomial_worth(Table(1, [[1]] * 9), [([high] * 8, 1)]), 9 ** 8)
        self.worth(polynomial_worth(Table(1, [[2]]), [([((40,),)] * 8, 1)] * 400), 400 * 2 ** 320)

    def test_errors(self):
        word = ((1,),)
        wrong = odd_values() + [0, Ratio(1), ([word], 1), [[[word], 1]], [([word], 1, 1)], [([word],)], [()], [[]],
                                [(word, 1)], [([word] * 9, 1)], [([], 1)] * 401, [([((41,),)], 1)],
                                [([((1,),) * 9], 1)], [([((1, 1),)], 1)], [([((),)], 1)], [([[(1,)]], 1)],
                                [({word: 1}, 1)]]
        wrong += [[([word], 1), ([word], value)] for value in no_numbers()]
        wrong += [[([word], 1), (value, 1)] for value in odd_values() + [0, Ratio(1), word]]
        wrong += [[([word, value], 1)] for value in no_words(40)]
        self.refuses_each(polynomial_worth, {"table": FEW, "polynomial": [([word], 1)]},
                          {"table": (InvalidTable, no_tables()), "polynomial": (InvalidPolynomial, wrong)})
        for power in (9, 16, 40):
            polynomial_worth(FEW, [([((power,),)], 1)])
        for columns in range(4):
            for others in range(4):
                polynomial = [([((1,) * others,)], 1)]
                if columns == others:
                    polynomial_worth(Table(columns, []), polynomial)
                else:
                    self.refuses(InvalidPolynomial, polynomial, polynomial_worth, Table(columns, []), polynomial)

    def test_a_tally_and_its_times(self):
        self.same(in_totals(tally_times(BOTH, 0)), [])
        self.worth(polynomial_worth(Table(1, [[1], [2]]), in_totals(BOTH)), 3)


if __name__ == "__main__":
    unittest.main()
