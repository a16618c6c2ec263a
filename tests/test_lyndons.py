"""Lyndon words, falling factors, and the one polynomial: points 65 and 66 of the document."""

import random
import unittest

from aheadsums.errors import InvalidColumns, InvalidTally, InvalidWord, InvalidWords
from aheadsums.lyndons import falling, in_lyndons, is_lyndon, is_told_by
from aheadsums.ratios import Ratio
from aheadsums.tables import Table
from aheadsums.tallies import Tally, tally_plus, tally_product
from aheadsums.totals import in_totals, polynomial_worth
from tests.helping import (Case, letters_of, no_columns, no_tallies, no_words, odd_values, some_table, some_tally,
                           some_word, words_to, worth_of)

ALONE = Tally(1, [(((1,), (0,)), 2)])
BOTH = Tally(1, [(((0,), (1,)), 1), (((1,), (0,)), 1)])
SMALL_WORDS = words_to(1, 5, 2) + words_to(2, 3, 1) + words_to(0, 4, 0)


def columns_of(word):
    return len(word[0]) if word else 1


def is_least_turn(word):
    """Whether a word stands ahead of each other word that its letters, carried from its begin to its end, make."""
    return len(word) > 0 and all(word < word[at:] + word[:at] for at in range(1, len(word)))


def ways_to_cut(word):
    """All ways to cut a word into words of one letter or more."""
    if not word:
        return [[]]
    return [[word[:at]] + others for at in range(1, len(word) + 1) for others in ways_to_cut(word[at:])]


class LyndonTest(Case):
    def test_against_turns(self):
        for word in SMALL_WORDS:
            self.assertIs(is_lyndon(columns_of(word), word), is_least_turn(word))
            self.assertIs(is_lyndon(word=word, columns=columns_of(word)), is_least_turn(word))

    def test_known_ones(self):
        a, b, c = (0,), (1,), (2,)
        for word in ((a,), (c,), (a, b), (a, a, b), (a, b, b), (a, a, b, a, b), (a, b, a, c), (a,) * 7 + (b,)):
            self.assertIs(is_lyndon(1, word), True)
        for word in ((), (a, a), (b, a), (a, b, a), (a, b, a, b), (a, a, b, a), (b, a, b), (a,) * 8):
            self.assertIs(is_lyndon(1, word), False)
        self.assertIs(is_lyndon(2, ((0, 8), (1, 0))), True)
        self.assertIs(is_lyndon(2, ((1, 0), (0, 8))), False)
        self.same([is_lyndon(0, ()), is_lyndon(0, ((),)), is_lyndon(0, ((), ()))], [False, True, False])

    def test_errors(self):
        for function in (is_lyndon, falling):
            self.refuses_each(function, {"columns": 1, "word": ((1,), (0,))},
                              {"columns": (InvalidColumns, no_columns()), "word": (InvalidWord, no_words())})


class FallingTest(Case):
    def test_just_one_way(self):
        for word in SMALL_WORDS:
            ways = [cut for cut in ways_to_cut(word) if all(is_least_turn(part) for part in cut)
                    and all(one >= two for one, two in zip(cut, cut[1:]))]
            self.assertEqual(len(ways), 1)
            self.same(falling(columns_of(word), word), ways[0])
            self.same(falling(word=word, columns=columns_of(word)), ways[0])

    def test_8_letters(self):
        chance = random.Random(65)
        for turn in range(100):
            word = some_word(chance, 1 + turn % 3, 8, chance.randrange(1, 9))
            factors = falling(1 + turn % 3, word)
            self.assertEqual(sum(factors, ()), word)
            self.assertIs(all(is_least_turn(factor) for factor in factors), True)
            self.assertEqual(factors, sorted(factors, reverse=True))
        self.same(falling(0, ((),) * 8), [((),)] * 8)
        self.same(falling(1, tuple((power,) for power in range(8))), [tuple((power,) for power in range(8))])

    def test_what_is_told_is_new(self):
        self.is_new(falling, 1, ((1,), (0,)))


class InLyndonsTest(Case):
    def is_told(self, polynomial):
        """Told, in Lyndon words."""
        self.assertIs(type(polynomial), list)
        for words, number in polynomial:
            self.assertIs(type(words), list)
            self.same(words, sorted(words))
            self.assertIs(all(is_least_turn(word) for word in words), True)
            self.assertIsInstance(number, Ratio)
            self.assertNotEqual(number, Ratio(0))
        keys = [words for words, _ in polynomial]
        self.assertEqual(keys, sorted(keys))
        self.assertEqual(len(keys), len({tuple(words) for words in keys}))

    def test_it_comes_to_the_tally(self):
        chance = random.Random(66)
        for turn in range(120):
            tally = some_tally(chance, turn % 4, 5)
            found = in_lyndons(tally)
            self.is_told(found)
            self.assertEqual(in_lyndons(tally=tally), found)
            table = some_table(chance, tally.columns, turn % 7)
            if len(found) <= 400:
                self.worth(polynomial_worth(table, found), worth_of(tally, table))

    def test_just_one_polynomial(self):
        chance = random.Random(67)
        lyndons = [word for word in words_to(1, 3, 1) if is_least_turn(word)]
        for _ in range(80):
            tally, wanted = Tally(1, []), {}
            for _ in range(3):
                words = sorted(chance.choice(lyndons) for _ in range(chance.randrange(3)))
                if sum(len(word) for word in words) <= 5:
                    factor = chance.choice([1, -1, Ratio(2, 3)])
                    product = Tally(1, [((), factor)])
                    for word in words:
                        product = tally_product(product, Tally(1, [(word, 1)]))
                    tally = tally_plus(tally, product)
                    wanted[tuple(words)] = wanted.get(tuple(words), Ratio(0)) + factor
            self.same(in_lyndons(tally),
                      [(list(words), wanted[words]) for words in sorted(wanted) if wanted[words].sign])

    def test_known_ones(self):
        a, b = ((0,),), ((1,),)
        self.same(in_lyndons(ALONE), [([a, b], Ratio(2)), ([a + b], Ratio(-2)), ([b], Ratio(-2))])
        self.same(in_lyndons(Tally(1, [(a + b, 3)])), [([a + b], Ratio(3))])
        self.same(in_lyndons(BOTH), in_totals(BOTH))
        self.same([in_lyndons(Tally(2, [])), in_lyndons(Tally(2, [((), 5)]))], [[], [([], Ratio(5))]])
        self.same(in_lyndons(Tally(1, [(b + b, 1)])), [([b, b], Ratio(1, 2)), ([((2,),)], Ratio(-1, 2))])

    def test_plain_totals_of_one_letter(self):
        for columns in range(4):
            for many in range(6):
                tally = Tally(columns, [(((2,) * columns,) * many, 7)])
                self.same(in_lyndons(tally), in_totals(tally))

    def test_5_letters(self):
        five = tuple((power,) for power in range(5))
        table = Table(1, [[2], [-1], [5], [Ratio(1, 3)], [3], [-2]])
        for word in (five, five[::-1], five[2:] + five[:2], ((8,),) * 5, ((8,), (7,), (8,), (7,), (6,))):
            tally = Tally(1, [(word, Ratio(1, 3))])
            found = in_lyndons(tally)
            self.is_told(found)
            self.worth(polynomial_worth(table, found), worth_of(tally, table))
        self.same(in_lyndons(Tally(1, [(five, 2)])), [([five], Ratio(2))])
        self.assertIn(([((40,),)], Ratio(1, 5)), in_lyndons(Tally(1, [(((8,),) * 5, 1)])))

    def test_at_most_5_letters(self):
        for many in (6, 7, 8):
            self.too_many("letters", 5, in_lyndons, Tally(1, [(((0,),) * many, 1)]))
            self.too_many("letters", 5, in_lyndons, Tally(1, [(((0,),) * (many - 1) + ((1,),), 1), ((), 1)]))

    def test_4000_lacings(self):
        words = {many: [word for word in words_to(1, 5, 2) if len(word) == many] for many in range(6)}

        def with_words(five, four, three, two, one, none):
            parts = words[5][-five:] + words[4][-four:] + words[3][-three:] + words[2][-two:] + words[1][:one]
            return Tally(1, [(word, 1) for word in parts + words[0][:none]])

        # 7 times 541, 2 times 75, 4 times 13, 3 times 3, and 1 and 1 are 4000.
        kept = with_words(7, 2, 4, 3, 1, 1)
        self.is_told(in_lyndons(kept))
        for passed in (with_words(7, 2, 4, 3, 2, 1), with_words(7, 2, 4, 4, 1, 1), with_words(7, 2, 5, 3, 1, 1),
                       with_words(7, 3, 4, 3, 1, 1), with_words(8, 2, 4, 3, 1, 1)):
            self.too_many("lacings", 4000, in_lyndons, passed)
            self.too_many("lacings", 4000, is_told_by, passed, [])
        letters = letters_of(3, range(8))
        self.same(len(in_lyndons(Tally(3, [((letter,), 1) for letter in letters[:400]]))), 400)
        long = Tally(1, [(word, 1) for word in words[5][:8]] + [(((0,),) * 6, 1)])
        self.too_many("letters", 5, in_lyndons, long)

    def test_what_is_told_is_new(self):
        self.is_new(in_lyndons, ALONE)

    def test_errors(self):
        self.refuses_each(in_lyndons, {"tally": ALONE}, {"tally": (InvalidTally, no_tallies())})


class ToldByTest(Case):
    def test_by_the_words_of_the_polynomial(self):
        chance = random.Random(68)
        for turn in range(100):
            tally = some_tally(chance, turn % 4, 4)
            used = sorted({word for words, _ in in_lyndons(tally) for word in words})[:200]
            self.assertIs(is_told_by(tally, used), True)
            self.assertIs(is_told_by(words=tuple(used[::-1] + used[:1]), tally=tally), True)
            for word in used:
                self.assertIs(is_told_by(tally, [other for other in used if other != word]), False)

    def test_known_ones(self):
        a, b = ((0,),), ((1,),)
        for words, wanted in [([a, b], True), ([b, a], True), ([a, b, a + b], True), ([a], False), ([b], False),
                              ([], False)]:
            self.assertIs(is_told_by(BOTH, words), wanted)
        for words, wanted in [([a, b], False), ([a, b, a + b], True), ([a + b], False), ([a + b, a], False)]:
            self.assertIs(is_told_by(ALONE, words), wanted)
        for words in ([], [a]):
            self.assertIs(is_told_by(Tally(1, [((), 5)]), words), True)
            self.assertIs(is_told_by(Tally(1, []), words), True)
        self.assertIs(is_told_by(Tally(1, [(((8,),) * 2, 1)]), [((8,),), ((16,),)]), True)
        self.assertIs(is_told_by(Tally(1, [(((8,),) * 2, 1)]), [((8,),), ((15,),)]), False)

    def test_bounds_of_the_words(self):
        high = tuple((power,) for power in range(33, 41))
        self.assertIs(is_told_by(ALONE, [high] * 200), False)
        for words in ([high] * 201, [high[:-1] + ((41,),)], [high + ((40,),)], [((40,), (39,))], [()], [((0,), (0,))],
                      [((1, 1),)], [((),)]):
            self.refuses(InvalidWords, words, is_told_by, ALONE, words)

    def test_errors(self):
        lyndon = ((0,), (1,))
        wrong = odd_values() + [0, Ratio(1), lyndon, [[(0,)]], [lyndon, ()], {lyndon: 1}]
        wrong += [[lyndon, value] for value in no_words(40)]
        self.refuses_each(is_told_by, {"tally": ALONE, "words": [lyndon]},
                          {"tally": (InvalidTally, no_tallies()), "words": (InvalidWords, wrong)})
        long = Tally(1, [(((0,),) * 6, 1)])
        self.too_many("letters", 5, is_told_by, long, [lyndon])
        self.refuses(InvalidWords, [()], is_told_by, long, [()])

    def test_what_is_passed_stays(self):
        self.leaves(is_told_by, ALONE, [((0,),), ((1,),)])


if __name__ == "__main__":
    unittest.main()
