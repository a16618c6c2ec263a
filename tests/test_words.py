"""Letters and words: points 6, 21, 22, 23 and 24 of the document."""

import random
import unittest
from itertools import product

from aheadsums.errors import InvalidColumns, InvalidLetter, InvalidRow, InvalidTable, InvalidWord
from aheadsums.ratios import Ratio
from aheadsums.tables import Table, joined, piece, turned
from aheadsums.words import (cuts, is_letter, is_word, letter_worth, multiplied, sums_ahead, sums_behind, turned_word,
                             word_sum)
from tests.helping import (Case, fractions, letter_at, no_columns, no_counts, no_letters, no_numbers, no_tables,
                           no_words, odd_values, rows_of, sum_over_choices)

POWERS = no_counts() + [9, 10, 16, 10 ** 30]
FEW = Table(1, [[2], [Ratio(1, 2)], [3]])


def some_words():
    """Words and tables of as many columns, with words of more letters than rows, too."""
    chance = random.Random(6)
    numbers = [0, 0, 1, -1, 2, Ratio(1, 2), Ratio(-3, 2), 5]
    pairs = []
    for turn in range(150):
        columns = turn % 4
        word = tuple(tuple(chance.choice([0, 0, 1, 1, 2, 3]) for _ in range(columns)) for _ in range(turn % 5))
        rows = [[chance.choice(numbers) for _ in range(columns)] for _ in range(turn % 7)]
        pairs.append((word, Table(columns, rows)))
    return pairs


class LetterTest(Case):
    def test_letters(self):
        for columns in range(4):
            for powers in [(0,) * columns, (8,) * columns, (1, 2, 3)[:columns], (0, 8, 0)[:columns]]:
                self.assertIs(is_letter(columns, powers), True)
                self.assertIs(is_letter(columns=columns, value=powers), True)

    def test_powers_to_8(self):
        for power in range(12):
            self.assertIs(is_letter(1, (power,)), power <= 8)
            self.assertIs(is_letter(2, (0, power)), power <= 8)
            self.assertIs(is_letter(3, (power, 8, 0)), power <= 8)

    def test_one_power_for_each_column(self):
        for columns in range(4):
            for many in range(7):
                self.assertIs(is_letter(columns, (1,) * many), many == columns)

    def test_tuples_alone(self):
        self.assertIs(is_letter(0, ()), True)
        for columns in range(4):
            self.assertIs(is_letter(columns, [1] * columns), False)
            for value in odd_values() + [0, 1, Ratio(1), ((),), ((1,),), "1" * columns]:
                self.assertIs(is_letter(columns, value), False)

    def test_powers_are_counts(self):
        for power in POWERS:
            for letter in [(power,), (power, 1), (1, power), (0, 0, power)]:
                self.assertIs(is_letter(len(letter), letter), False)
        self.assertIs(is_letter(1, (True,)), False)
        self.assertIs(is_letter(1, (Ratio(1),)), False)

    def test_columns(self):
        for function in (is_letter, is_word):
            self.refuses_each(function, {"columns": 1, "value": ()}, {"columns": (InvalidColumns, no_columns())})
            self.refuses(InvalidColumns, True, function, True, (1,))
            self.refuses(InvalidColumns, 4, function, 4, "no letter")


class WordTest(Case):
    def test_words(self):
        for columns in range(4):
            for many in range(12):
                for letter in [(0,) * columns, (8,) * columns, (0, 1, 2)[:columns]]:
                    self.assertIs(is_word(columns, (letter,) * many), many <= 8)
                    self.assertIs(is_word(columns=columns, value=(letter,) * many), many <= 8)

    def test_whatever_else_is_no_word(self):
        for value in no_words():
            self.assertIs(is_word(1, value), False)

    def test_each_letter_counts(self):
        good = [(1,), (2,), (0,)]
        for at in range(3):
            for wrong in [(9,), (), (1, 1), [1], 1, (True,), (-1,), (Ratio(1),), None]:
                letters = list(good)
                letters[at] = wrong
                self.assertIs(is_word(1, tuple(letters)), False)

    def test_letters_of_other_columns(self):
        for columns in range(4):
            for others in range(4):
                self.assertIs(is_word(columns, ((1,) * others,)), columns == others)
                self.assertIs(is_word(columns, ()), True)
                self.assertIs(is_word(columns, ((1,) * columns, (1,) * others)), columns == others)


class MultipliedTest(Case):
    def test_powers_are_added(self):
        self.same(multiplied(3, (1, 0, 8), (2, 3, 8)), (3, 3, 16))
        self.same(multiplied(0, (), ()), ())
        self.same(multiplied(columns=2, letter=(8, 8), other=(8, 8)), (16, 16))
        for one in range(9):
            for other in range(9):
                self.same(multiplied(2, (one, 3), (other, 0)), (one + other, 3))

    def test_they_come_to_the_product(self):
        row = [Ratio(2, 3), -2]
        for one in product(range(5), repeat=2):
            for other in product(range(4), repeat=2):
                both = letter_at(multiplied(2, one, other), fractions(row))
                self.worth(letter_worth(2, one, row) * letter_worth(2, other, row), both)

    def test_errors(self):
        self.refuses_each(multiplied, {"columns": 1, "letter": (1,), "other": (2,)},
                          {"columns": (InvalidColumns, no_columns()), "letter": (InvalidLetter, no_letters()),
                           "other": (InvalidLetter, no_letters())})
        self.refuses(InvalidLetter, (9, 0), multiplied, 2, (1, 1), (9, 0))


class LetterWorthTest(Case):
    def test_worths(self):
        for row in ([2, 3], [0, 5], [-1, Ratio(1, 2)], [Ratio(-2, 3), 0], [0, 0]):
            for letter in product(range(9), repeat=2):
                self.worth(letter_worth(2, letter, row), letter_at(letter, fractions(row)))

    def test_0_taken_0_times_is_1(self):
        self.worth(letter_worth(1, (0,), [0]), 1)
        self.worth(letter_worth(2, (0, 0), [0, Ratio(0)]), 1)
        self.worth(letter_worth(2, (0, 2), [0, 3]), 9)
        self.worth(letter_worth(2, (1, 2), [0, 3]), 0)
        self.worth(letter_worth(1, (8,), [0]), 0)

    def test_no_columns_and_tuples(self):
        self.worth(letter_worth(0, (), []), 1)
        self.worth(letter_worth(0, (), ()), 1)
        self.worth(letter_worth(columns=3, letter=(1, 2, 3), row=(5, 2, -1)), -20)

    def test_what_is_passed_stays(self):
        self.leaves(letter_worth, 2, (1, 2), [3, Ratio(1, 2)])

    def test_errors(self):
        no_rows = odd_values() + [1, Ratio(1), [], (), [1, 2], [[1]]] + [[value] for value in no_numbers()]
        self.refuses_each(letter_worth, {"columns": 1, "letter": (1,), "row": [2]},
                          {"columns": (InvalidColumns, no_columns()),
                           "letter": (InvalidLetter, no_letters()), "row": (InvalidRow, no_rows)})


class SumTest(Case):
    def test_against_choices_of_rows(self):
        for word, table in some_words():
            wanted = sum_over_choices(word, rows_of(table))
            self.worth(word_sum(table, word), wanted)
            self.worth(word_sum(word=word, table=table), wanted)

    def test_the_empty_word_and_bare_letters(self):
        for height in (0, 1, 5, 40):
            table = Table(0, [[]] * height)
            self.worth(word_sum(table, ()), 1)
            self.worth(word_sum(table, ((),)), height)
            self.worth(word_sum(table, ((), ())), height * (height - 1) // 2)
        self.worth(word_sum(Table(3, []), ()), 1)
        self.worth(word_sum(Table(1, [[0], [0], [0]]), ((0,), (0,))), 3)

    def test_more_letters_than_rows(self):
        for height in range(8):
            table = Table(1, [[5]] * height)
            for many in range(9):
                self.assertIs(word_sum(table, ((1,),) * many) == Ratio(0), many > height)

    def test_letters_keep_their_order(self):
        table = Table(1, [[2], [3]])
        self.worth(word_sum(table, ((1,), (2,))), 18)
        self.worth(word_sum(table, ((2,), (1,))), 12)

    def test_long_words_over_40_rows(self):
        table = Table(1, [[1]] * 40)
        self.worth(word_sum(table, ((8,),) * 8), 76904685)

    def test_sums_ahead(self):
        for word, table in some_words():
            wanted = [sum_over_choices(word, rows_of(table)[:at]) for at in range(table.height + 1)]
            self.worths(sums_ahead(table, word), wanted)
            self.assertEqual(sums_ahead(word=word, table=table), sums_ahead(table, word))
            for at in range(table.height + 1):
                self.assertEqual(sums_ahead(table, word)[at], word_sum(piece(table, 0, at), word))

    def test_sums_behind(self):
        for word, table in some_words():
            wanted = [sum_over_choices(word, rows_of(table)[at:]) for at in range(table.height + 1)]
            self.worths(sums_behind(table, word), wanted)
            self.assertEqual(sums_behind(word=word, table=table), sums_behind(table, word))

    def test_sums_over_no_rows(self):
        for function in (sums_ahead, sums_behind):
            self.worths(function(Table(1, []), ()), [1])
            self.worths(function(Table(1, []), ((1,),)), [0])
            self.worths(function(Table(0, [[], []]), ()), [1, 1, 1])

    def test_what_is_told_is_new_and_what_is_passed_stays(self):
        for function in (sums_ahead, sums_behind):
            self.is_new(function, FEW, ((1,),))
            self.is_new(function, FEW, ())
            function(FEW, ((1,), (2,)))
        self.same(FEW.rows(), [[Ratio(2)], [Ratio(1, 2)], [Ratio(3)]])

    def test_errors(self):
        for function in (word_sum, sums_ahead, sums_behind):
            self.refuses_each(function, {"table": FEW, "word": ((1,),)},
                              {"table": (InvalidTable, no_tables()), "word": (InvalidWord, no_words())})
            for columns in (0, 2, 3):
                self.refuses(InvalidWord, ((1,),), function, Table(columns, []), ((1,),))


class CutsTest(Case):
    def test_all_cuts(self):
        letters = ((1, 0), (0, 2), (1, 0), (3, 3), (0, 0), (8, 8), (1, 1), (0, 1))
        for many in range(9):
            word = letters[:many]
            self.same(cuts(2, word), [(word[:at], word[at:]) for at in range(many + 1)])
        self.same(cuts(columns=0, word=()), [((), ())])

    def test_sums_over_tables_put_together(self):
        chance = random.Random(23)
        for word, table in some_words():
            at = chance.randrange(table.height + 1)
            first, second = piece(table, 0, at), piece(table, at, table.height)
            found = [word_sum(first, one) * word_sum(second, other) for one, other in cuts(table.columns, word)]
            self.assertEqual(Ratio.total(found), word_sum(joined(first, second), word))

    def test_what_is_told_is_new(self):
        self.is_new(cuts, 1, ((1,), (2,)))

    def test_errors(self):
        self.refuses_each(cuts, {"columns": 1, "word": ((1,),)},
                          {"columns": (InvalidColumns, no_columns()), "word": (InvalidWord, no_words())})


class TurnedWordTest(Case):
    def test_turned(self):
        self.same(turned_word(1, ((1,), (2,), (0,))), ((0,), (2,), (1,)))
        self.same(turned_word(2, ((1, 2), (3, 4))), ((3, 4), (1, 2)))
        self.same(turned_word(columns=3, word=()), ())

    def test_sums_over_turned_tables(self):
        for word, table in some_words():
            other = turned_word(table.columns, word)
            self.same(turned_word(table.columns, other), word)
            self.assertEqual(word_sum(turned(table), other), word_sum(table, word))

    def test_errors(self):
        self.refuses_each(turned_word, {"columns": 1, "word": ((1,),)},
                          {"columns": (InvalidColumns, no_columns()), "word": (InvalidWord, no_words())})


if __name__ == "__main__":
    unittest.main()
