"""Kept tallies, how they are joined, and piece papers: points 81 to 84 of the document."""

import random
import unittest
from fractions import Fraction

from aheadsums.errors import InvalidNumbers, InvalidTable, InvalidTally, UnlikeColumns
from aheadsums.pieces import (is_piece_paper, joined_numbers, joining, kept_numbers, kept_tallies, piece_paper,
                              shorter_paper, whole_numbers)
from aheadsums.ratios import Ratio
from aheadsums.tables import Table, joined
from aheadsums.tallies import Tally, tally_plus, tally_product, tally_times, tally_worth
from tests.helping import (Case, determinant_of, fraction, fractions, letters_of, no_numbers, no_tables, no_tallies,
                           odd_values, rank_of, rows_of, some_factor, some_table, some_tally, some_word,
                           sum_over_choices, worth_at_rows)

PAIRS = Tally(1, [(((1,), (1,)), 1)])
ROWS, MORE = Table(1, [[2], [3]]), Table(1, [[5]])
NOTHING = Tally(1, [])
OF_TALLIES = (kept_tallies, joining, whole_numbers, piece_paper)


def middle_parts(tally):
    """All middle parts that are not nothing, as dicts of Fractions by word, straight from the definition."""
    factors = {word: fraction(factor) for word, factor in tally.parts()}
    sides = {(word[:low], word[high:]) for word in factors for low in range(len(word) + 1)
             for high in range(low, len(word) + 1)}
    found = []
    for ahead, behind in sorted(sides):
        found.append({word[len(ahead):len(word) - len(behind)]: factor for word, factor in factors.items()
                      if len(ahead) + len(behind) <= len(word) and word[:len(ahead)] == ahead
                      and word[len(word) - len(behind):] == behind})
    return found


def reduced_by_rule(parts):
    """The reduced rows of dicts of Fractions, by sorted words, as tuples of a head and a dict."""
    words = sorted({word for part in parts for word in part})
    left, found = [[part.get(word, Fraction(0)) for word in words] for part in parts], []
    for at, word in enumerate(words):
        pivots = [row for row in left if row[at] != 0]
        if pivots:
            pivot = [number / pivots[0][at] for number in pivots[0]]
            left = [[one - row[at] * two for one, two in zip(row, pivot)] for row in left if row is not pivots[0]]
            found = [(head, [one - row[at] * two for one, two in zip(row, pivot)]) for head, row in found]
            found.append((word, pivot))
    return [(head, {word: number for word, number in zip(words, row) if number}) for head, row in found]


def square_of(tally, pieces, sides):
    """The square of point 84, of however many rows."""
    return [[worth_at_rows(tally, rows_of(ahead) + rows_of(one) + rows_of(behind)) for one in pieces]
            for ahead, behind in sides]


def some_long_tally(chance, columns, power=1):
    return Tally(columns, [(some_word(chance, columns, chance.randrange(5), power), some_factor(chance))
                           for _ in range(chance.randrange(8))])


class KeptTest(Case):
    def test_the_reduced_rows_of_all_middle_parts(self):
        chance = random.Random(121)
        for turn in range(150):
            tally = some_long_tally(chance, turn % 4)
            found = kept_tallies(tally)
            self.assertIs(type(found), list)
            wanted = reduced_by_rule(middle_parts(tally))
            self.same(len(found), len(wanted))
            for kept, (head, factors) in zip(found, wanted):
                self.assertIsInstance(kept, Tally)
                self.same(kept.columns, tally.columns)
                self.assertEqual({word: fraction(factor) for word, factor in kept.parts()}, factors)
                self.same(kept.parts()[0][0], head)
            self.assertEqual(kept_tallies(tally=tally), found)

    def test_each_middle_part_is_made_of_them(self):
        chance = random.Random(122)
        for turn in range(60):
            tally = some_long_tally(chance, turn % 3)
            kept = [{word: fraction(factor) for word, factor in one.parts()} for one in kept_tallies(tally)]
            parts = middle_parts(tally)
            words = sorted({word for one in kept + parts for word in one})
            rows = [[one.get(word, Fraction(0)) for word in words] for one in kept]
            for part in parts:
                self.same(rank_of(rows + [[part.get(word, Fraction(0)) for word in words]]), len(kept))

    def test_few_and_many(self):
        self.same([kept_tallies(NOTHING), kept_tallies(Tally(3, []))], [[], []])
        self.assertEqual(kept_tallies(Tally(1, [((), Ratio(5, 3))])), [Tally(1, [((), 1)])])
        eight = tuple((power,) for power in range(8))
        self.same(len(kept_tallies(Tally(1, [(eight, 7)]))), 37)
        self.same(len(kept_tallies(Tally(1, [(((1,),) * 8, 7)]))), 9)
        # A product of sums of one column is as long as its powers tell.
        x = Tally(1, [(((1,),), 1)])
        self.same([len(kept_tallies(one)) for one in (x, tally_product(x, x), tally_product(tally_product(x, x), x))],
                  [2, 3, 4])

    def test_multiples_have_the_same(self):
        chance = random.Random(123)
        for turn in range(30):
            tally = some_long_tally(chance, turn % 3)
            self.assertEqual(kept_tallies(tally_times(tally, Ratio(-7, 2))), kept_tallies(tally))

    def test_at_most_400_terms(self):
        self.same(max([len(one.parts()) for one in kept_tallies(self.tally_with_a_great_one(100, 150))]), 400)
        for ours, theirs in ((101, 150), (250, 149)):
            self.too_many("terms", 400, kept_tallies, self.tally_with_a_great_one(ours, theirs))

    def test_the_other_functions_are_not_bounded(self):
        tally = self.tally_with_a_great_one(101, 150)
        table = Table(3, [[1, 2, 3], [2, 0, 1], [1, 1, 2]])
        numbers = kept_numbers(tally, table)
        self.assertEqual(Ratio.total([one * two for one, two in zip(whole_numbers(tally), numbers)]),
                         tally_worth(tally, table))
        none = kept_numbers(tally, Table(3, []))
        self.assertEqual(joined_numbers(tally, none, numbers), numbers)

    def tally_with_a_great_one(self, ours, theirs):
        """A tally and its quotient by a letter begin with the same word, and end unlike: their difference is long.

        Of its words so many are ours, twice so many theirs.
        """
        letters = letters_of(3, range(9))
        parts = [((letters[at], letters[at + 1], letters[at + 300]), at + 1) for at in range(ours)]
        parts += [(((8, 8, 8), letters[at + 100], letters[at], letters[at + 200]), 2 * at + 1) for at in range(theirs)]
        return Tally(3, parts + [(((8, 8, 8),) + parts[0][0], 5)])

    def test_errors(self):
        for function in OF_TALLIES:
            self.refuses_each(function, {"tally": PAIRS}, {"tally": (InvalidTally, no_tallies())})


class JoiningTest(Case):
    def test_the_factors_of_heads_put_together(self):
        chance = random.Random(124)
        for turn in range(60):
            tally = some_long_tally(chance, turn % 3)
            kept = kept_tallies(tally)
            heads = [one.parts()[0][0] for one in kept]
            found = joining(tally)
            self.same(found, [[[dict(one.parts()).get(first + second, Ratio(0)) for second in heads] for first in heads]
                              for one in kept])
            whole = dict(tally.parts())
            self.same(whole_numbers(tally), [whole.get(head, Ratio(0)) for head in heads])
            self.assertEqual([joining(tally=tally), whole_numbers(tally=tally)], [found, whole_numbers(tally)])
        self.same([joining(NOTHING), whole_numbers(NOTHING)], [[], []])

    def test_what_is_told_is_new(self):
        for function in (kept_tallies, joining, whole_numbers):
            self.is_new(function, PAIRS)
        self.is_new(kept_numbers, PAIRS, ROWS)
        self.is_new(joined_numbers, PAIRS, [1, 2, 3], [4, 5, 6])

    def test_pieces_one_behind_the_other(self):
        chance = random.Random(125)
        for turn in range(80):
            tally = some_long_tally(chance, turn % 3)
            one, other = some_table(chance, tally.columns, turn % 4), some_table(chance, tally.columns, turn % 5)
            first, second = kept_numbers(tally, one), kept_numbers(tally, other)
            both = joined_numbers(tally, first, second)
            self.assertIs(type(both), list)
            self.assertEqual(both, kept_numbers(tally, joined(one, other)))
            self.assertEqual(joined_numbers(others=tuple(second), numbers=tuple(first), tally=tally), both)
            factors = joining(tally)
            self.worths(both, [sum([fraction(factors[i][j][k]) * fraction(first[j]) * fraction(second[k])
                                    for j in range(len(first)) for k in range(len(first))], Fraction(0))
                               for i in range(len(first))])
            whole = Ratio.total([number * worth for number, worth in zip(whole_numbers(tally), both)])
            self.assertEqual(whole, tally_worth(tally, joined(one, other)))

    def test_whatever_numbers(self):
        self.worths(joined_numbers(PAIRS, [1, Ratio(1, 2), 3], [0, 1, 2]), [0, 1, Fraction(5, 2)])
        self.same(joined_numbers(NOTHING, [], []), [])

    def test_errors(self):
        wrong = odd_values() + [0, Ratio(1), [], [1, 2], [1, 2, 3, 4], [[1, 2, 3]], {0: 1, 1: 2, 2: 3}, PAIRS]
        wrong += [[1, value, 3] for value in no_numbers()]
        self.refuses_each(joined_numbers, {"tally": PAIRS, "numbers": [1, 2, 3], "others": (4, Ratio(1, 2), 6)},
                          {"tally": (InvalidTally, no_tallies()), "numbers": (InvalidNumbers, wrong),
                           "others": (InvalidNumbers, wrong)})
        self.refuses(InvalidNumbers, [1], joined_numbers, NOTHING, [1], [])
        self.refuses(InvalidNumbers, [1], joined_numbers, NOTHING, [], [1])


class NumbersTest(Case):
    def test_the_worths_of_the_kept_tallies(self):
        chance = random.Random(126)
        for turn in range(80):
            tally = some_long_tally(chance, turn % 4)
            table = some_table(chance, tally.columns, turn % 6)
            found = kept_numbers(tally, table)
            self.worths(found, [worth_at_rows(one, rows_of(table)) for one in kept_tallies(tally)])
            self.assertEqual(kept_numbers(table=table, tally=tally), found)

    def test_without_rows_the_factors_of_the_empty_word(self):
        chance = random.Random(127)
        for turn in range(30):
            tally = some_long_tally(chance, turn % 3)
            self.assertEqual(kept_numbers(tally, Table(tally.columns, [])),
                             [dict(one.parts()).get((), Ratio(0)) for one in kept_tallies(tally)])
        self.same(kept_numbers(NOTHING, ROWS), [])

    def test_middle_parts_tell_pieces_between_rows(self):
        chance = random.Random(128)
        for turn in range(40):
            tally = some_long_tally(chance, turn % 3)
            ahead, one, behind = [some_table(chance, tally.columns, chance.randrange(4)) for _ in range(3)]
            words = [word for word, factor in tally.parts()]
            sides = {(word[:low], word[high:]) for word in words for low in range(len(word) + 1)
                     for high in range(low, len(word) + 1)}
            parts = dict(zip(sorted(sides), middle_parts(tally)))
            worth = sum([sum_over_choices(u, rows_of(ahead)) * sum_over_choices(x, rows_of(behind))
                         * sum([factor * sum_over_choices(v, rows_of(one)) for v, factor in part.items()], Fraction(0))
                         for (u, x), part in parts.items()], Fraction(0))
            self.worth(tally_worth(tally, joined(joined(ahead, one), behind)), worth)

    def test_errors(self):
        self.refuses_each(kept_numbers, {"tally": PAIRS, "table": ROWS},
                          {"tally": (InvalidTally, no_tallies()), "table": (InvalidTable, no_tables() + [PAIRS])})
        for columns in range(4):
            for others in range(4):
                if columns != others:
                    self.raised(UnlikeColumns, kept_numbers, Tally(columns, []), Table(others, []))


class PaperTest(Case):
    def check(self, tally, found, many):
        self.assertIs(type(found), tuple)
        pieces, sides = found
        self.assertIs(type(pieces), list)
        self.assertIs(type(sides), list)
        self.same([len(pieces), len(sides)], [many, many])
        for pair in sides:
            self.assertIs(type(pair), tuple)
            self.same(len(pair), 2)
        for table in pieces + [table for pair in sides for table in pair]:
            self.assertIsInstance(table, Table)
            self.same(table.columns, tally.columns)
        self.assertNotEqual(determinant_of(square_of(tally, pieces, sides)), 0)
        self.assertIs(is_piece_paper(tally, found), True)
        self.assertIs(is_piece_paper(value=(tuple(pieces), tuple(sides)), tally=tally), True)

    def test_as_many_pieces_as_kept_tallies(self):
        chance = random.Random(129)
        for turn in range(80):
            tally = some_long_tally(chance, turn % 4)
            found = piece_paper(tally)
            self.check(tally, found, len(kept_tallies(tally)))
            self.assertEqual(piece_paper(tally=tally), found)

    def test_long_words(self):
        eight = tuple((power,) for power in range(8))
        found = piece_paper(Tally(1, [(eight, 7)]))
        self.same(len(found[0]), 37)
        self.assertIs(is_piece_paper(Tally(1, [(eight, 7)]), found), True)
        self.check(Tally(0, [(((),) * 8, 1)]), piece_paper(Tally(0, [(((),) * 8, 1)])), 9)
        self.same(piece_paper(NOTHING), ([], []))

    def test_great_ones(self):
        chance = random.Random(130)
        tally = Tally(2, [(some_word(chance, 2, 1 + at % 8, 2), Ratio(at + 1, 7)) for at in range(12)])
        found = piece_paper(tally)
        self.same(len(found[0]), len(kept_tallies(tally)))
        self.assertGreater(len(found[0]), 80)
        self.assertIs(is_piece_paper(tally, found), True)
        # The same piece twice.
        self.assertIs(is_piece_paper(tally, ([found[0][1]] + found[0][1:], found[1])), False)

    def test_shorter_ones(self):
        chance = random.Random(131)
        for turn in range(40):
            tally = some_long_tally(chance, turn % 3)
            for many in range(len(kept_tallies(tally)) + 1):
                self.check(tally, shorter_paper(tally, many), many)

    def test_numbers_of_the_answer(self):
        chance = random.Random(132)
        tally = Tally(3, [(some_word(chance, 3, 1 + at % 5, 8), Ratio(999983 - at, 999979 + at)) for at in range(6)])
        pieces, sides = piece_paper(tally)
        for table in pieces + [table for pair in sides for table in pair]:
            self.assertTrue(all(0 <= fraction(number) <= 8 for row in table.rows() for number in row))

    def test_the_judge_against_determinants(self):
        chance = random.Random(133)
        let = 0
        for turn in range(250):
            tally = some_tally(chance, turn % 3, 3)
            many = chance.randrange(4)
            pieces = [some_table(chance, tally.columns, chance.randrange(4)) for _ in range(many)]
            sides = [tuple(some_table(chance, tally.columns, chance.randrange(3)) for _ in range(2))
                     for _ in range(many)]
            wanted = determinant_of(square_of(tally, pieces, sides)) != 0
            self.assertIs(is_piece_paper(tally, (pieces, sides)), wanted)
            let += wanted and many > 0
        self.assertGreater(let, 30)

    def test_with_one_piece_more_no_paper_is_let(self):
        chance = random.Random(134)
        for turn in range(60):
            tally = some_tally(chance, turn % 3, 3)
            pieces, sides = piece_paper(tally)
            more, pair = some_table(chance, tally.columns, 3), tuple(some_table(chance, tally.columns, 1) for _ in "ab")
            self.assertIs(is_piece_paper(tally, (pieces + [more], sides + [pair])), False)
            self.assertIs(is_piece_paper(tally, (pieces + [more], sides)), False)
            self.assertIs(is_piece_paper(tally, (pieces, sides + [pair])), False)

    def test_of_however_many_rows(self):
        forty = Table(1, [[1]] * 40)
        self.assertIs(is_piece_paper(PAIRS, ([forty], [(forty, forty)])), True)
        one = Tally(1, [(((1,),), 1)])
        self.assertIs(is_piece_paper(one, ([forty, Table(1, [])], [(forty, forty), (forty, Table(1, []))])), True)
        self.assertIs(is_piece_paper(one, ([forty, forty], [(forty, forty), (forty, Table(1, []))])), False)
        self.assertIs(is_piece_paper(one, ([Table(1, [[2]])] * 1, [(Table(1, [[-1]]), Table(1, [[-1]]))])), False)

    def test_of_any_value(self):
        good = ([ROWS], [(MORE, MORE)])
        self.assertIs(is_piece_paper(PAIRS, good), True)
        self.assertIs(is_piece_paper(PAIRS, ([], [])), True)
        self.assertIs(is_piece_paper(PAIRS, ((), ())), True)
        values = odd_values() + [0, Ratio(1), (), [], list(good), good[:1], good + ([],), ([ROWS], []),
                                 ([], [(MORE, MORE)]),
                                 ([ROWS], [[MORE, MORE]]), ([ROWS], [(MORE,)]), ([ROWS], [(MORE, MORE, MORE)]),
                                 (ROWS, [(MORE, MORE)]), ([ROWS], (MORE, MORE)), ([[ROWS]], [(MORE, MORE)])]
        for value in no_tables() + [PAIRS] + [Table(columns, [[1] * columns]) for columns in (0, 2, 3)]:
            values += [([value], good[1]), ([ROWS], [(value, MORE)]), ([ROWS], [(MORE, value)]), ([ROWS], [value])]
        for value in odd_values() + [0, Ratio(1)]:
            values += [(value, good[1]), ([ROWS], value)]
        for value in values:
            self.assertIs(is_piece_paper(PAIRS, value), False)
        self.assertIs(is_piece_paper(NOTHING, ([], [])), True)
        self.assertIs(is_piece_paper(NOTHING, good), False)

    def test_what_is_passed_stays(self):
        parts, rows = PAIRS.parts(), ROWS.rows()
        self.leaves(joined_numbers, PAIRS, [1, 2, 3], [4, 5, 6])
        pieces, sides = [ROWS], [(MORE, MORE)]
        is_piece_paper(PAIRS, (pieces, sides))
        self.same([pieces == [ROWS], sides == [(MORE, MORE)]], [True, True])
        piece_paper(PAIRS)[0].pop()
        self.same([PAIRS.parts(), ROWS.rows(), len(piece_paper(PAIRS)[0])], [parts, rows, 3])

    def test_errors(self):
        self.refuses_each(is_piece_paper, {"tally": PAIRS, "value": None}, {"tally": (InvalidTally, no_tallies())})

    def test_sums_of_tallies(self):
        both = tally_plus(PAIRS, Tally(1, [(((1,),), 2)]))
        self.same(len(piece_paper(both)[0]), 3)
        self.worths(kept_numbers(both, ROWS), fractions([1, 5, 6]))


if __name__ == "__main__":
    unittest.main()
