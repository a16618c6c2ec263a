"""The lots of words: which letters they have, and how often each (point 61 of the document)."""

import unittest
from itertools import permutations

from aheadsums.lots import how_many_words, lot_of, words_of
from tests.helping import Case, words_to


class LotsTest(Case):
    def test_against_all_orders(self):
        for word in words_to(1, 5, 2) + words_to(2, 3, 1) + words_to(0, 6, 0):
            wanted = sorted({order: True for order in permutations(word)})
            self.same(words_of(lot_of(word)), wanted)
            self.same(how_many_words(lot_of(word)), len(wanted))
            self.same(lot_of(word), wanted[0])

    def test_8_letters(self):
        eight = tuple((power,) for power in range(8))
        self.same([how_many_words(eight), how_many_words(((1,),) * 8)], [40320, 1])
        self.same(len(words_of(((0,),) * 5 + ((1,),) * 2 + ((2,),))), 168)


if __name__ == "__main__":
    unittest.main()
