"""Vectors and their bases, against plain elimination."""

import random
import unittest
from fractions import Fraction

from aheadsums.bases import basis_of, less, less_at, reduced_basis, rest_of, shortened, vector_of
from aheadsums.ratios import Ratio
from tests.helping import Case, fraction, rank_of


def some_vectors(chance, keys, many):
    """Vectors of which some are sums of multiples of others."""
    vectors = []
    for _ in range(many):
        numbers = {key: chance.choice([0, 0, 1, -1, 2, 6, -15]) for key in keys}
        if vectors and chance.randrange(3) == 0:
            one, other = chance.choice(vectors), chance.choice(vectors)
            numbers = {key: 2 * one.get(key, 0) - 3 * other.get(key, 0) for key in keys}
        vectors.append({key: number for key, number in numbers.items() if number != 0})
    return vectors


def lines(vectors, keys):
    return [[Fraction(vector.get(key, 0)) for key in keys] for vector in vectors]


class BasesTest(Case):
    def test_vectors_of_ratios(self):
        self.same(vector_of({"a": Ratio(1, 2), "b": Ratio(0), "c": Ratio(-4, 3)}), {"a": 3, "c": -8})
        self.same([vector_of({}), vector_of({1: Ratio(0)}), vector_of({1: Ratio(-6, 7)})], [{}, {}, {1: -1}])

    def test_shortened(self):
        self.same([shortened({1: 4, 2: 0, 3: -6}), shortened({1: 0}), shortened({})], [{1: 2, 3: -3}, {}, {}])

    def test_less(self):
        self.same(less({1: 2, 2: 4}, 3, {1: 6, 3: 2}, 1), {2: 6, 3: -1})
        for one, other in ((4, 6), (-4, 6), (4, -6), (1, 1)):
            left = less_at({1: one, 2: 5}, {1: other, 3: 7}, 1)
            self.assertNotIn(1, left)
            self.same(sorted(left), [2, 3])

    def test_a_basis_has_the_same_span(self):
        chance, keys = random.Random(81), "abcdef"
        for _ in range(150):
            vectors = some_vectors(chance, keys[:chance.randrange(1, 7)], chance.randrange(8))
            rows = basis_of(vectors)
            self.same(len(rows), rank_of(lines(vectors, keys)))
            self.same(rank_of(lines(vectors + list(rows.values()), keys)), len(rows))
            self.same(rank_of(lines(list(rows.values()), keys)), len(rows))
            for head, row in rows.items():
                self.same(min(row), head)
            for vector in some_vectors(chance, keys, 3):
                self.assertIs(not rest_of(rows, vector), rank_of(lines(vectors + [vector], keys)) == len(rows))

    def test_a_reduced_basis(self):
        chance, keys = random.Random(82), "abcdef"
        for _ in range(150):
            vectors = some_vectors(chance, keys, chance.randrange(8))
            basis = reduced_basis(vectors)
            heads = [head for head, factors in basis]
            self.same(heads, sorted(heads))
            for head, factors in basis:
                self.same(min(factors), head)
                self.assertNotIn(Ratio(0), list(factors.values()))
                self.assertEqual([factors.get(other, Ratio(0)) for other in heads],
                                 [Ratio(1 if other == head else 0) for other in heads])
            rows = [{key: fraction(factor) for key, factor in factors.items()} for head, factors in basis]
            self.same(len(rows), rank_of(lines(vectors, keys)))
            self.same(rank_of(lines(vectors + rows, keys)), len(rows))

    def test_what_is_passed_stays(self):
        vectors = [{1: 2, 2: 4}, {1: 3}]
        for function in (basis_of, reduced_basis):
            self.leaves(function, vectors)


if __name__ == "__main__":
    unittest.main()
