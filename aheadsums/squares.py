"""Squares of numbers with a determinant that is not 0, and rows that make such ones of independent functions."""

from aheadsums.bases import basis_of, less, shortened
from aheadsums.ratios import Ratio
from aheadsums.showing import showing_rows

# 2 ** 61 - 1, a prime number.
PRIME = 2305843009213693951


def is_regular(rows):
    """Whether the determinant of a square, a list of lists of INTEGERS, is not 0."""
    # What is not 0 is hardly ever a multiple of the prime: numbers that do not grow tell most squares.
    if _is_regular_modulo([[number % PRIME for number in row] for row in rows]):
        return True
    vectors = [shortened(dict(enumerate(row))) for row in rows]
    return len(basis_of(vectors)) == len(rows)


def _is_regular_modulo(rows):
    """Whether the determinant of a square of INTEGERS, each below the prime, is no multiple of it."""
    left = rows
    while left:
        at = _first_not_nought(left)
        if at is None:
            return False
        chosen = left[at]
        share = pow(int(chosen[0]), 2305843009213693949, 2305843009213693951)
        one = [number * share % PRIME for number in chosen[1:]]
        left = [_less_modulo(row, one) for row in left[:at] + left[at + 1:]]
    return True


def _first_not_nought(rows):
    """The position of the first row that does not begin with 0; None if there is none."""
    return min([at for at, row in enumerate(rows) if row[0] != 0], default=None)


def _less_modulo(row, one):
    """What is left of the row behind its first number, less so many times what stands behind a 1."""
    many = row[0]
    if many == 0:
        return row[1:]
    return [(number - many * other) % PRIME for number, other in zip(row[1:], one)]


def telling_pairs(columns, functions):
    """As many pairs of lists of rows as functions, at which what they come to has a determinant that is not 0.

    Functions are vectors by tuples of two words, none a sum of multiples of others. One comes, at a pair, to the sum
    of its numbers, each times the sum of the first word over the first rows, of the second over the second ones.
    """
    basis = basis_of([{(_lengths(words), words): number for words, number in function.items()}
                      for function in functions])
    shortest = {}
    for lengths, words in basis:
        function = basis[(lengths, words)]
        part = {told[0] + told[1]: number for (its_lengths, told), number in function.items() if its_lengths == lengths}
        shortest.setdefault(lengths, []).append(part)
    # At as many rows as shortest words have letters longer ones come to 0, so those of each length can be apart.
    return [(rows[:lengths[0]], rows[lengths[0]:]) for lengths in sorted(shortest)
            for rows in _telling_rows(columns, shortest[lengths])]


def _lengths(words):
    return len(words[0]), len(words[1])


def _telling_rows(columns, functions):
    """As many lists of rows as functions, vectors by words of as many letters, none a sum of multiples of others."""
    left = functions
    found = []
    while left:
        rows = showing_rows(columns, [(word, Ratio(number)) for word, number in left[0].items()])
        found.append(rows)
        left = [_less_at_rows(function, left[0], rows) for function in left[1:]]
    return found


def _less_at_rows(function, first, rows):
    """A multiple of the function less one of the first one, which is not 0 at the rows, so that it is 0 there."""
    worth = _worth(function, rows)
    return function if worth == 0 else less(function, _worth(first, rows), first, worth)


def _worth(function, rows):
    """What the function comes to at as many rows, lists of INTEGERS, as its words have letters."""
    return sum([number * _product_at(word, rows) for word, number in function.items()])


def _product_at(word, rows):
    product = 1
    for letter, row in zip(word, rows):
        for power, number in zip(letter, row):
            for _ in range(power):
                product = product * number
    return product
