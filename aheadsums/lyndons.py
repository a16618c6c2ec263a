"""Lyndon words, falling factors, and tallies as polynomials in sums of Lyndon words."""

from aheadsums.errors import InvalidWords, TooMany
from aheadsums.lacings import laced
from aheadsums.lots import lot_of, words_of
from aheadsums.ratios import Ratio
from aheadsums.tallies import MOST_WAYS, need_tally
from aheadsums.totals import MOST_POLYNOMIAL_LETTERS, are_words_to, need_few_letters, told_polynomial
from aheadsums.words import need_word

MOST_TELLING_WORDS = 200
# In how many ways so many letters are put into a row of places, several at one place, too.
MOST_WAYS_BY_LENGTH = (1, 1, 3, 13, 75, 541)


def is_lyndon(columns, word):
    """Whether the word is a Lyndon word."""
    need_word(columns, word)
    return _is_lyndon(word)


def _is_lyndon(word):
    return len(word) > 0 and all([word < word[at:] for at in range(1, len(word))])


def falling(columns, word):
    """The list of the word's falling factors."""
    need_word(columns, word)
    return _falling(word)


def _falling(word):
    """The first falling factor is the longest Lyndon word with which the word begins."""
    factors = []
    left = word
    while left:
        many = max([at for at in range(1, len(left) + 1) if _is_lyndon(left[:at])])
        factors.append(left[:many])
        left = left[many:]
    return factors


def in_lyndons(tally):
    """The tally's polynomial in sums of Lyndon words, told."""
    need_tally(tally)
    return _in_lyndons(tally)


def _in_lyndons(tally):
    need_few_letters(tally)
    if sum([MOST_WAYS_BY_LENGTH[len(word)] for word, factor in tally.parts()]) > MOST_WAYS:
        raise TooMany("lacings", MOST_WAYS)
    left = {word: factor for word, factor in tally.parts()}
    found = {}
    for length in reversed(range(MOST_POLYNOMIAL_LETTERS + 1)):
        # What is taken out with a word has its lot, and stands ahead of it, or is shorter.
        for lot in _lots(left, length):
            for word in words_of(lot)[::-1]:
                if left.get(word, Ratio(0)).sign != 0:
                    factors = _falling(word)
                    found[tuple(sorted(factors))] = _taken_out(left, word, factors)
    return told_polynomial(found)


def _lots(words, length):
    """The sorted list of the lots of the words of this length."""
    return sorted(set([lot_of(word) for word in words if len(word) == length]))


def _taken_out(left, word, factors):
    """The number of times that the product of the factors is taken out of what is left, so that the word is gone."""
    product = _laced_together(factors)
    number = left[word].over(product[word])
    for lacing, ways in product.items():
        left[lacing] = left.get(lacing, Ratio(0)) - number * ways
    return number


def _laced_together(factors):
    """A dict of the lacings of all the words, each with how many ways make it."""
    product = {(): 1}
    for factor in factors:
        longer = {}
        for word, ways in product.items():
            for lacing, more in laced(word, factor).items():
                longer[lacing] = longer.get(lacing, 0) + ways * more
        product = longer
    return product


def is_told_by(tally, words):
    """Whether the tally's polynomial has no other Lyndon words than these."""
    need_tally(tally)
    if not _are_lyndons(tally.columns, words):
        raise InvalidWords(words)
    return all([word in words for factors, number in _in_lyndons(tally) for word in factors])


def _are_lyndons(columns, value):
    return are_words_to(columns, value, MOST_TELLING_WORDS) and all([_is_lyndon(word) for word in value])
