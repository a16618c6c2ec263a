"""Polynomials in sums of words, and tallies as polynomials in plain totals."""

from aheadsums.basics import is_list
from aheadsums.errors import InvalidPolynomial, TooMany
from aheadsums.lots import lot_of
from aheadsums.orders import is_order_free
from aheadsums.ratios import Ratio, as_ratio, is_number
from aheadsums.tables import need_table
from aheadsums.tallies import MOST_PARTS, need_tally
from aheadsums.words import MOST_LETTERS, both_letters, is_word_to, sums_by_word, worths_by_letter

MOST_POLYNOMIAL_LETTERS = 5
MOST_POLYNOMIAL_POWER = 40


def in_totals(tally):
    """The tally's polynomial in plain totals, told; None if it is not order-free."""
    need_tally(tally)
    need_few_letters(tally)
    if not is_order_free(tally):
        return None
    found = {}
    for word, factor in tally.parts():
        # Of each lot all words are there, with the same factor; they are told together.
        if word == lot_of(word):
            for letters, many in _in_plain_totals(word).items():
                words = tuple([(letter,) for letter in letters])
                found[words] = found.get(words, Ratio(0)) + factor.over(_like_orders(word)) * many
    return told_polynomial(found)


def need_few_letters(tally):
    """TooMany if a tally is too long to be told as a polynomial."""
    if tally.length > MOST_POLYNOMIAL_LETTERS:
        raise TooMany("letters", MOST_POLYNOMIAL_LETTERS)


def _like_orders(lot):
    """In how many ways the letters can be put in an order that makes the same word."""
    many = 1
    for at, letter in enumerate(lot):
        many = many * lot[:at + 1].count(letter)
    return many


def _in_plain_totals(letters):
    """The sum, over all choices of unlike rows, one for each letter, of the product of what the letters come to.

    It is a dict of the products of plain totals, each told by the sorted letters, and how often each is taken.
    """
    if not letters:
        return {(): 1}
    others, last = letters[:-1], letters[-1]
    found = {}
    for plain, many in _in_plain_totals(others).items():
        _add(found, lot_of(plain + (last,)), many)
    # The row of the last letter is to be none of the others' rows.
    for at, other in enumerate(others):
        for plain, many in _in_plain_totals(others[:at] + (both_letters(other, last),) + others[at + 1:]).items():
            _add(found, plain, -many)
    return found


def _add(found, plain, many):
    found[plain] = found.get(plain, 0) + many


def told_polynomial(factors):
    """The polynomial as it is told, out of a dict of its factors by sorted tuples of words."""
    return [(list(words), factors[words]) for words in sorted(factors) if factors[words].sign != 0]


def polynomial_worth(table, polynomial):
    """What the polynomial comes to on the table."""
    need_table(table)
    if not _is_polynomial(table.columns, polynomial):
        raise InvalidPolynomial(polynomial)
    used = [word for words, number in polynomial for word in words]
    sums = sums_by_word(used, worths_by_letter(used, table.rows()), table.height)
    worth = Ratio(0)
    for words, number in polynomial:
        product = as_ratio(number)
        for word in words:
            product = product * sums[word][-1]
        worth = worth + product
    return worth


def _is_polynomial(columns, value):
    if not is_list(value) or len(value) > MOST_PARTS:
        return False
    return all([_is_product(columns, part) for part in value])


def _is_product(columns, value):
    if not isinstance(value, tuple) or len(value) != 2 or not is_number(value[1]):
        return False
    return are_words_to(columns, value[0], MOST_LETTERS)


def are_words_to(columns, value, most):
    """Whether any value is a list of at most so many words of a polynomial."""
    if not is_list(value) or len(value) > most:
        return False
    return all([is_word_to(columns, word, MOST_POLYNOMIAL_POWER) for word in value])
