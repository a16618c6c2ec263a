"""Rows that show that words, or terms, of as many letters do not come to nothing."""

from aheadsums.forms import term_length
from aheadsums.ratios import Ratio
from aheadsums.tables import Table
from aheadsums.words import MOST_POWER


def showing_rows(columns, parts):
    """As many rows as each word has letters, so that the sum of the products of letters, one for each row, is not 0.

    parts: one or more tuples of a word and a factor that is not 0, of words of as many letters, none twice.
    """
    left = {_powers(word): factor for word, factor in parts}
    many = len(parts[0][0])
    rows = []
    for _ in range(many):
        row = []
        for _ in range(columns):
            number, left = _next_number(left)
            row.append(number)
        rows.append(row)
    return rows


def _powers(word):
    return tuple([power for letter in word for power in letter])


def _next_number(factors):
    """A number for the first power of each tuple, and the factors by the other powers, not all of which are 0.

    Of more numbers than the greatest power one does: a polynomial has at most as many roots.
    """
    number = 0
    left = _put(factors, number)
    while not left and number < MOST_POWER:
        number = number + 1
        left = _put(factors, number)
    return number, left


def _put(factors, number):
    found = {}
    for powers, factor in factors.items():
        behind = powers[1:]
        found[behind] = found.get(behind, Ratio(0)) + factor * _power(number, powers[0])
    return {powers: found[powers] for powers in found if found[powers].sign != 0}


def _power(number, power):
    worth = 1
    for _ in range(power):
        worth = worth * number
    return worth


def shortest_parts(parts):
    """Those of the parts whose terms have the least length, [] of none."""
    least = min([term_length(term) for term, factor in parts], default=0)
    return [(term, factor) for term, factor in parts if term_length(term) == least]


def showing_place(columns, parts):
    """As many rows as the shortest terms have letters, and the position of one at which they do not come to 0.

    parts: one or more tuples of a term and a factor that is not 0, none twice.
    """
    shortest = shortest_parts(parts)
    at = len(shortest[0][0][0])
    # The terms with another number of left letters have not enough rows there.
    words = [(left + (own,) + right, factor) for (left, own, right), factor in shortest if len(left) == at]
    return showing_rows(columns, words), at


def showing_table(columns, parts):
    """A tuple of a table of these rows, and the position."""
    rows, at = showing_place(columns, parts)
    return Table(columns, rows), at
