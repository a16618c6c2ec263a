"""Tallies: points 31, 33, 35 and 36 of the document, as far as they speak of tallies."""

import random
import unittest
from fractions import Fraction
from itertools import product

from aheadsums.errors import InvalidColumns, InvalidNumber, InvalidParts, InvalidTable, InvalidTally, UnlikeColumns
from aheadsums.ratios import Ratio
from aheadsums.tables import Table, turned
from aheadsums.tallies import Tally, tally_plus, tally_product, tally_times, tally_turned, tally_worth
from tests.helping import (Case, LikeAll, fraction, letters_of, no_columns, no_numbers, no_tables, no_tallies, no_words,
                           odd_values, some_table, some_tally, worth_of)

X = Tally(1, [(((1,),), 1)])
FEW = Table(1, [[2], [Ratio(1, 2)], [3]])
FOURS = ((0,),) * 4


def of_letters(letters, factor=1):
    """The tally of the sums of these letters alone."""
    return Tally(len(letters[0]), [((letter,), factor) for letter in letters])


def many_words(many, ahead=()):
    """So many words for three columns, each with these letters ahead of a further one."""
    return [tuple(ahead) + (letter,) for letter in letters_of(3, range(8))[:many]]


def of_words(words, factor=1, columns=3):
    """The tally of these words."""
    return Tally(columns, [(word, factor) for word in words])


def some_lots():
    """Two tallies, a table, all of as many columns."""
    chance = random.Random(31)
    return [(some_tally(chance, turn % 4, 3), some_tally(chance, turn % 4, 3), some_table(chance, turn % 4, turn % 6))
            for turn in range(120)]


class MadeTest(Case):
    def test_parts_are_sorted(self):
        words = [(), ((0,),), ((0,), (0,)), ((0,), (1,)), ((1,),), ((1,), (0,)), ((1,), (0,), (5,)), ((2,),), ((8,),)]
        parts = [(word, Ratio(at + 1, 2)) for at, word in enumerate(words)]
        chance = random.Random(1)
        for _ in range(10):
            mixed = list(parts)
            chance.shuffle(mixed)
            self.same(Tally(1, mixed).parts(), parts)
            self.same(Tally(1, tuple(mixed)).parts(), parts)

    def test_parts_of_like_words_are_joined(self):
        x, y = ((1,),), ((2,), (1,))
        self.same(Tally(1, [(x, 1), (y, 5), (x, Ratio(1, 2)), (x, -3)]).parts(), [(x, Ratio(-3, 2)), (y, Ratio(5))])
        self.same(Tally(0, [((), 1), ((), Ratio(1, 2))]).parts(), [((), Ratio(3, 2))])
        self.same(Tally(columns=1, parts=[(x, 1)] * 400).parts(), [(x, Ratio(400))])

    def test_none_with_0(self):
        x, y = ((1,),), ((2,), (1,))
        self.same(Tally(1, [(x, 0), (y, Ratio(0))]).parts(), [])
        self.same(Tally(1, [(x, 1), (y, 2), (x, -1)]).parts(), [(y, Ratio(2))])
        self.same(Tally(1, [(x, Ratio(1, 3)), (x, Ratio(2, -6))]).parts(), [])
        self.same(Tally(1, [(x, 1), (x, -1), (x, 4)]).parts(), [(x, Ratio(4))])

    def test_length(self):
        for many in range(9):
            self.same(Tally(1, [((), 1), (((1,),) * many, 2)]).length, many)
        self.same([Tally(2, []).length, Tally(2, [((), 0)]).length, Tally(2, [((), 5)]).length], [-1, -1, 0])
        self.same(Tally(1, [(((1,), (1,)), 1), (((1,),), 1), (((1,), (1,)), -1)]).length, 1)
        self.same(Tally(1, [(((8,),), 1), (((0,), (0,), (0,)), 1)]).length, 3)

    def test_columns(self):
        for columns in range(4):
            self.same(Tally(columns, []).columns, columns)
            self.same(Tally(columns, [(((8,) * columns,) * 8, 1)]).parts(), [(((8,) * columns,) * 8, Ratio(1))])

    def test_at_most_400_parts(self):
        self.same(len(of_words(many_words(400)).parts()), 400)
        for many in (401, 500):
            parts = [(word, 1) for word in many_words(many)]
            self.refuses(InvalidParts, parts, Tally, 3, parts)
        self.refuses(InvalidParts, [((), 0)] * 401, Tally, 0, [((), 0)] * 401)

    def test_what_is_told_is_new(self):
        self.is_new(Tally(1, [((), 1), (((1,),), 2)]).parts)

    def test_what_was_passed_is_copied_and_stays(self):
        parts = [(((1,),), 1), ((), 2), (((1,),), 3)]
        tally = self.leaves(Tally, 1, parts)
        parts.pop()
        parts[0] = ((), 7)
        self.same(tally.parts(), [((), Ratio(2)), (((1,),), Ratio(4))])

    def test_it_never_changes(self):
        for name in ("columns", "length"):
            with self.assertRaises(AttributeError):
                setattr(X, name, 1)

    def test_wrong_words(self):
        for word in no_words():
            for parts in ([(word, 1)], [((), 1), (word, 1)], ((word, 0),)):
                self.refuses(InvalidParts, parts, Tally, 1, parts)

    def test_wrong_factors(self):
        for value in no_numbers():
            for parts in ([((), value)], [((), 1), (((1,),), value), ((), 2)], (((), value),)):
                self.refuses(InvalidParts, parts, Tally, 1, parts)

    def test_wrong_parts(self):
        for part in odd_values() + [0, Ratio(1), (), ((),), ((), 1, 1), [(), 1], [((1,),), 1], ((1,),), (1, ())]:
            for parts in ([part], [((), 1), part], (part, ((), 1))):
                self.refuses(InvalidParts, parts, Tally, 1, parts)
        for columns in range(4):
            for others in range(4):
                parts = [(((1,) * others,), 1)]
                if columns != others:
                    self.refuses(InvalidParts, parts, Tally, columns, parts)

    def test_errors(self):
        self.refuses_each(Tally, {"columns": 1, "parts": [(((1,),), 1)]},
                          {"columns": (InvalidColumns, no_columns()),
                           "parts": (InvalidParts, odd_values() + [0, Ratio(1), [[]], [1], ((), 1), [[(), 1]]])})


class EqualTest(Case):
    def test_by_columns_and_parts(self):
        x, y = ((1,),), ((2,),)
        self.assertIs(Tally(1, [(x, 1), (y, 2)]) == Tally(1, ((y, Ratio(2)), (x, 2), (x, -1))), True)
        self.assertIs(Tally(1, [(x, 1), (y, 0)]) != Tally(1, [(x, Ratio(3, 3))]), False)
        for other in (Tally(1, []), Tally(1, [(x, 2)]), Tally(1, [(y, 1)]), Tally(1, [(x, 1), (y, 1)]),
                      Tally(2, [(((1, 0),), 1)])):
            self.assertIs(X == other, False)
            self.assertIs(X != other, True)

    def test_nothing_of_unlike_columns(self):
        for columns in range(4):
            for others in range(4):
                self.assertIs(Tally(columns, []) == Tally(others, []), columns == others)
                self.assertIs(Tally(columns, [((), 1)]) == Tally(others, [((), 1)]), columns == others)

    def test_nothing_else_is_equal(self):
        for value in no_tallies() + [[(((1,),), Ratio(1))], 0]:
            for tally in (X, Tally(1, [])):
                self.assertIs(tally == value, False)
                self.assertIs(tally != value, True)
                if not isinstance(value, LikeAll) and type(value).__name__ != "Unlikeable":
                    self.assertIs(value == tally, False)


class WorthTest(Case):
    def test_against_choices_of_rows(self):
        for tally, other, table in some_lots():
            self.worth(tally_worth(tally, table), worth_of(tally, table))
            self.worth(tally_worth(table=table, tally=other), worth_of(other, table))

    def test_nothing_and_the_empty_word(self):
        for height in (0, 1, 40):
            table = Table(0, [[]] * height)
            self.worth(tally_worth(Tally(0, []), table), 0)
            self.worth(tally_worth(Tally(0, [((), Ratio(7, 2))]), table), Fraction(7, 2))
            self.worth(tally_worth(Tally(0, [((), 1), (((),), 2)]), table), 1 + 2 * height)

    def test_more_letters_than_rows(self):
        self.worth(tally_worth(Tally(1, [(((1,),) * 4, 5), (((1,),) * 3, 2)]), FEW), 6)

    def test_many_parts_over_40_rows(self):
        words = [word + ((at,),) for at in range(4) for word in product([(0,), (1,), (2,)], repeat=4)]
        self.worth(tally_worth(of_words(words, 1, 1), Table(1, [[1]] * 40)), len(words) * 658008)

    def test_errors(self):
        self.refuses_each(tally_worth, {"tally": X, "table": FEW},
                          {"tally": (InvalidTally, no_tallies()), "table": (InvalidTable, no_tables() + [X])})

    def test_unlike_columns(self):
        for columns in range(4):
            for others in range(4):
                if columns != others:
                    self.raised(UnlikeColumns, tally_worth, Tally(columns, []), Table(others, []))


class PlusTest(Case):
    def test_sums(self):
        for tally, other, table in some_lots():
            found = tally_plus(tally, other)
            self.assertEqual(found, Tally(tally.columns, tally.parts() + other.parts()))
            self.assertEqual(tally_plus(other=other, tally=tally), found)
            self.worth(tally_worth(found, table), worth_of(tally, table) + worth_of(other, table))

    def test_what_comes_to_0_is_left_out(self):
        two = Tally(1, [((), 2), (((1,),), -1)])
        self.same(tally_plus(X, two).parts(), [((), Ratio(2))])
        self.assertEqual(tally_plus(X, tally_times(X, -1)), Tally(1, []))
        self.assertEqual(tally_plus(X, Tally(1, [])), X)
        self.assertEqual(tally_plus(Tally(1, []), X), X)

    def test_what_is_passed_stays(self):
        tally_plus(X, Tally(1, [(((1,),), 5)]))
        self.same(X.parts(), [(((1,),), Ratio(1))])

    def test_at_most_400_terms(self):
        full, words = of_words(many_words(400)), many_words(512)
        self.same(len(tally_plus(full, full).parts()), 400)
        self.same(len(tally_plus(of_words(words[:399]), of_words(words[399:400])).parts()), 400)
        self.too_many("terms", 400, tally_plus, full, of_words(words[400:401]))
        self.too_many("terms", 400, tally_plus, of_words(words[400:401]), full)
        self.same(len(tally_plus(full, tally_plus(of_words(words[:100], -1), of_words(words[400:500]))).parts()), 400)
        self.too_many("terms", 400, tally_plus, full,
                      tally_plus(of_words(words[:99], -1), of_words(words[400:500])))
        self.same(tally_plus(full, of_words(words[:400], -1)).parts(), [])

    def test_errors(self):
        for function in (tally_plus, tally_product):
            self.refuses_each(function, {"tally": X, "other": X},
                              {"tally": (InvalidTally, no_tallies()), "other": (InvalidTally, no_tallies())})
            for columns in range(4):
                for others in range(4):
                    if columns != others:
                        self.raised(UnlikeColumns, function, Tally(columns, []), Tally(others, []))

    def test_too_many_comes_last(self):
        full = of_words(many_words(400))
        self.raised(UnlikeColumns, tally_plus, full, Tally(1, [((), 1)]))
        self.refuses(InvalidTally, None, tally_plus, full, None)


class TimesTest(Case):
    def test_each_factor_times_the_number(self):
        for tally, _, table in some_lots():
            for number in (0, 1, -1, 7, Ratio(0), Ratio(2, 3), Ratio(-1, 2)):
                found = tally_times(tally, number)
                self.assertEqual(found, Tally(tally.columns, [(word, factor * number)
                                                              for word, factor in tally.parts()]))
                self.worth(tally_worth(found, table), worth_of(tally, table) * fraction(number))
        self.assertEqual(tally_times(number=3, tally=X), Tally(1, [(((1,),), 3)]))
        self.same(tally_times(X, 0).parts(), [])
        self.same(tally_times(X, 0).length, -1)
        self.same(X.parts(), [(((1,),), Ratio(1))])

    def test_errors(self):
        self.refuses_each(tally_times, {"tally": X, "number": Ratio(1, 2)},
                          {"tally": (InvalidTally, no_tallies()), "number": (InvalidNumber, no_numbers())})
        for value in no_numbers():
            self.refuses(InvalidNumber, value, tally_times, Tally(1, []), value)


class TurnedTest(Case):
    def test_each_word_is_turned(self):
        tally = Tally(1, [(((1,), (0,)), 1), (((0,), (1,)), 5), (((3,), (2,), (1,)), 2), ((), 4)])
        self.same(tally_turned(tally).parts(), [((), Ratio(4)), (((0,), (1,)), Ratio(1)), (((1,), (0,)), Ratio(5)),
                                                (((1,), (2,), (3,)), Ratio(2))])
        self.assertEqual(tally_turned(Tally(2, [])), Tally(2, []))

    def test_worths_over_turned_tables(self):
        for tally, _, table in some_lots():
            self.assertEqual(tally_turned(tally=tally_turned(tally)), tally)
            self.assertEqual(tally_worth(tally_turned(tally), turned(table)), tally_worth(tally, table))

    def test_errors(self):
        self.refuses_each(tally_turned, {"tally": X}, {"tally": (InvalidTally, no_tallies())})


class ProductTest(Case):
    def test_they_come_to_the_product(self):
        for tally, other, table in some_lots():
            found = tally_product(tally, other)
            self.worth(tally_worth(found, table), worth_of(tally, table) * worth_of(other, table))
            self.assertEqual(tally_product(other=tally, tally=other), found)
            self.same(found.columns, tally.columns)

    def test_parts(self):
        self.same(tally_product(X, X).parts(), [(((1,), (1,)), Ratio(2)), (((2,),), Ratio(1))])
        two = Tally(1, [((), Ratio(1, 2)), (((0,),), 3)])
        self.same(tally_product(two, X).parts(), [(((0,), (1,)), Ratio(3)), (((1,),), Ratio(7, 2)),
                                                  (((1,), (0,)), Ratio(3))])
        less = tally_plus(X, Tally(1, [((), -1)]))
        more = tally_plus(X, Tally(1, [((), 1)]))
        self.same(tally_product(less, more).parts(), [((), Ratio(-1)), (((1,), (1,)), Ratio(2)), (((2,),), Ratio(1))])

    def test_nothing_and_one(self):
        one = Tally(1, [((), 1)])
        long = Tally(1, [(((1,),) * 8, 1)])
        for tally in (X, one, long, Tally(1, [])):
            self.assertEqual(tally_product(tally, one), tally)
            self.assertEqual(tally_product(one, tally), tally)
            self.assertEqual(tally_product(tally, Tally(1, [])), Tally(1, []))
            self.assertEqual(tally_product(Tally(1, []), tally), Tally(1, []))

    def test_what_is_passed_stays(self):
        tally_product(X, X)
        self.same(X.parts(), [(((1,),), Ratio(1))])


class BoundsTest(Case):
    """Point 36, each bound just kept and just passed, and their sequence."""

    def with_ways(self, four, three, two, one, none):
        """A tally of so many words of 4, 3, 2, 1, 0 letters, laced with FOURS in 321, 129, 41, 9, 1 ways each."""
        parts = []
        for length, many in [(4, four), (3, three), (2, two), (1, one), (0, none)]:
            parts += [(word, 1) for word in list(product([(0,), (1,)], repeat=length))[:many]]
        return Tally(1, parts)

    def test_4000_lacings(self):
        other = Tally(1, [(FOURS, 1)])
        kept, passed = self.with_ways(12, 1, 0, 2, 1), self.with_ways(11, 3, 2, 0, 1)
        table = Table(1, [[2], [3], [-1], [Ratio(1, 2)], [1]])
        for found in (tally_product(kept, other), tally_product(other, kept)):
            self.worth(tally_worth(found, table), worth_of(kept, table) * worth_of(other, table))
        self.too_many("lacings", 4000, tally_product, passed, other)
        self.too_many("lacings", 4000, tally_product, other, passed)

    def test_many_pairs(self):
        full = of_words(many_words(400))
        self.too_many("lacings", 4000, tally_product, full, full)
        ten = tally_plus(of_words(many_words(9)), Tally(3, [((), 1)]))
        self.too_many("lacings", 4000, tally_product, full, ten)

    def test_8_letters(self):
        for one in range(9):
            for other in range(9):
                first, second = Tally(0, [(((),) * one, 1)]), Tally(0, [(((),) * other, 1)])
                if one + other <= 8:
                    self.same(tally_product(first, second).length, one + other)
                elif one + other == 9:
                    self.too_many("letters", 8, tally_product, first, second)
        self.too_many("letters", 8, tally_product, Tally(0, [((), 1), (((),) * 5, 1)]), Tally(0, [(((),) * 4, 1)]))
        self.same(tally_product(Tally(0, [((), 1), (((),) * 5, 1)]), Tally(0, [(((),) * 3, 1)])).length, 8)

    def test_power_8(self):
        for one in range(9):
            for other in range(9):
                first, second = of_letters([(1, one)]), of_letters([(2, other)])
                if one + other <= 8:
                    self.same(tally_product(first, second).parts()[-1][0], ((3, one + other),))
                else:
                    self.too_many("power", 8, tally_product, first, second)
        long = Tally(1, [(((1,), (8,), (0,)), 1)])
        self.too_many("power", 8, tally_product, long, X)
        self.same(tally_product(long, Tally(1, [(((0,),), 1)])).length, 4)
        self.too_many("power", 8, tally_product, tally_plus(long, X), tally_plus(X, Tally(1, [((), 1)])))

    def test_400_terms(self):
        letters = [letter for letter in letters_of(3, range(6)) if letter not in [(0, 0, 0), (1, 0, 0)]]
        lone = of_letters([(1, 0, 0)])
        one = Tally(3, [((), 1)])
        kept = tally_plus(of_letters(letters[:133]), one)
        self.same(len(tally_product(lone, kept).parts()), 400)
        self.same(len(tally_product(kept, lone).parts()), 400)
        passed = tally_plus(of_letters(letters[:133]), lone)
        self.too_many("terms", 400, tally_product, lone, passed)
        self.too_many("terms", 400, tally_product, passed, lone)
        full = of_words(many_words(400))
        self.same(tally_product(full, one), full)

    def test_terms_are_counted_as_they_would_be_told(self):
        letters = letters_of(2, range(5))
        first, second = of_letters(letters[:12]), of_letters(letters[12:])
        less = tally_plus(first, tally_times(second, -1))
        found = tally_product(tally_plus(first, second), less)
        self.assertLessEqual(len(found.parts()), 400)
        self.assertEqual(found, tally_plus(tally_product(first, first), tally_times(tally_product(second, second), -1)))
        self.too_many("terms", 400, tally_product, tally_plus(first, second), tally_plus(first, second))

    def test_their_sequence(self):
        long, great = Tally(1, [(((8,),) * 8, 1)]), Tally(1, [(((8,),), 1)])
        self.too_many("lacings", 4000, tally_product, long, long)
        self.too_many("letters", 8, tally_product, long, great)
        letters = [letter for letter in letters_of(3, range(9)) if letter[0] > 0]
        self.too_many("power", 8, tally_product, of_letters([(8, 0, 0)]), of_letters(letters[:200]))
        self.too_many("lacings", 4000, tally_product, tally_plus(of_letters([(8, 0, 0)]), of_letters(letters[:30])),
                      of_letters(letters[:200]))
        longer = of_words([word + ((0, 0, 0),) * 6 for word in many_words(30)])
        self.too_many("letters", 8, tally_product, longer, of_words([((1, 0, 0), (0, 1, 0))]))

    def test_errors_of_state_stand_ahead(self):
        long = Tally(1, [(((8,),) * 8, 1)])
        self.raised(UnlikeColumns, tally_product, long, Tally(2, [(((8, 8),) * 8, 1)]))
        self.refuses(InvalidTally, None, tally_product, long, None)


if __name__ == "__main__":
    unittest.main()
