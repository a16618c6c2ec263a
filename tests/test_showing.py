"""Rows that show that words, or terms, of as many letters do not come to nothing."""

import random
import unittest
from fractions import Fraction

from aheadsums.forms import Form
from aheadsums.ratios import Ratio
from aheadsums.showing import shortest_parts, showing_place, showing_rows, showing_table
from aheadsums.tables import Table
from tests.helping import Case, form_at, fraction, letter_at, some_term, some_word


def product_sum(parts, rows):
    """The sum of the products of letters, one for each row."""
    whole = Fraction(0)
    for word, factor in parts:
        worth = fraction(factor)
        for letter, row in zip(word, rows):
            worth *= letter_at(letter, [Fraction(number) for number in row])
        whole += worth
    return whole


class ShowingTest(Case):
    def check_rows(self, columns, parts):
        rows = showing_rows(columns, parts)
        self.assertEqual([len(row) for row in rows], [columns] * len(parts[0][0]))
        self.assertNotEqual(product_sum(parts, rows), 0)
        self.assertIs(all(number in range(9) for row in rows for number in row), True)

    def test_rows(self):
        chance = random.Random(7)
        for turn in range(200):
            columns, many = 1 + turn % 3, 1 + turn % 8
            words = [some_word(chance, columns, many, chance.randrange(9)) for _ in range(chance.randrange(1, 9))]
            self.check_rows(columns, [(word, Ratio(chance.choice([1, -1, 3]), chance.randrange(1, 9)))
                                      for word in sorted(set(words))])
        self.check_rows(0, [(((), ()), Ratio(-1))])

    def test_rows_where_many_numbers_are_roots(self):
        # The letters' differences come to 0 wherever two rows, or two columns, are alike.
        self.check_rows(1, [(((0,), (1,)), Ratio(1)), (((1,), (0,)), Ratio(-1))])
        self.check_rows(2, [(((0, 1),), Ratio(1)), (((1, 0),), Ratio(-1))])
        self.check_rows(1, [(((8,), (0,)), Ratio(1)), (((0,), (8,)), Ratio(-1))])
        self.check_rows(3, [(((1, 1, 1), (1, 1, 1)), Ratio(1)), (((1, 1, 1), (0, 0, 0)), Ratio(-1)),
                            (((0, 0, 0), (1, 1, 1)), Ratio(-1)), (((0, 0, 0), (0, 0, 0)), Ratio(1))])

    def test_shortest_parts(self):
        parts = [((((0,),), (1,), ()), 1), (((), (2,), ()), 2), (((), (1,), ((1,), (0,))), 3), (((), (4,), ()), 4)]
        self.same(shortest_parts(parts), [parts[1], parts[3]])
        self.same([shortest_parts(parts[:1]), shortest_parts([])], [parts[:1], []])

    def test_places(self):
        chance = random.Random(8)
        for turn in range(100):
            columns = turn % 4
            form = Form(columns, [(some_term(chance, columns, chance.randrange(1, 5)), chance.choice([1, -2]))
                                  for _ in range(6)])
            if form.parts():
                rows, at = showing_place(columns, form.parts())
                table, position = showing_table(columns, form.parts())
                self.assertEqual((table, position), (Table(columns, rows), at))
                self.assertNotEqual(form_at(form, table, at), 0)
                least = min(len(left) + 1 + len(right) for (left, own, right), _ in form.parts())
                self.same(table.height, least)


if __name__ == "__main__":
    unittest.main()
