"""Tallies: sums of words with factors, and what they come to on a table."""

from aheadsums.basics import is_list, need_columns, need_like_columns
from aheadsums.errors import InvalidParts, InvalidTally, TooMany
from aheadsums.lacings import how_many, laced
from aheadsums.ratios import Ratio, is_number, need_number
from aheadsums.tables import need_table
from aheadsums.words import MOST_LETTERS, MOST_POWER, is_word, sums_by_word, worths_by_letter

MOST_PARTS = 400
MOST_WAYS = 4000


class Tally:
    """A sum of words for some columns, each with a factor that is not 0; it never changes."""

    def __init__(self, columns, parts):
        need_columns(columns)
        if not are_parts(columns, parts, is_word):
            raise InvalidParts(parts)
        self._columns = columns
        self._parts = told_parts(parts)

    @property
    def columns(self):
        """How many columns the tables have that it is for."""
        return self._columns

    @property
    def length(self):
        """The greatest number of letters of its words, -1 of nothing."""
        return max([len(word) for word, factor in self._parts], default=-1)

    def parts(self):
        """The sorted list of the tuples of a word and its factor, a Ratio."""
        return list(self._parts)

    def __eq__(self, other):
        return isinstance(other, Tally) and self._columns == other._columns and self._parts == other._parts


def are_parts(columns, value, is_told):
    """Whether any value is a list of parts: tuples of what is_told lets, a word or the like, and a NUMBER."""
    if not is_list(value) or len(value) > MOST_PARTS:
        return False
    return all([_is_part(columns, part, is_told) for part in value])


def _is_part(columns, value, is_told):
    if not isinstance(value, tuple) or len(value) != 2:
        return False
    return is_told(columns, value[0]) and is_number(value[1])


def told_parts(parts):
    """Parts as they are told: sorted, those of like words joined, those with 0 left out."""
    factors = {}
    for word, factor in parts:
        factors[word] = factors.get(word, Ratio(0)) + factor
    return [(word, factors[word]) for word in sorted(factors) if factors[word].sign != 0]


def need_tally(tally):
    """InvalidTally unless a Tally."""
    if not isinstance(tally, Tally):
        raise InvalidTally(tally)


def need_few_parts(parts):
    """TooMany if more parts would be told than there may be."""
    if len(parts) > MOST_PARTS:
        raise TooMany("terms", MOST_PARTS)


def _need_two(tally, other):
    need_tally(tally)
    need_tally(other)
    need_like_columns(tally, other)


def tally_worth(tally, table):
    """What the tally comes to on the table."""
    need_tally(tally)
    need_table(table)
    need_like_columns(tally, table)
    words = [word for word, factor in tally.parts()]
    sums = sums_by_word(words, worths_by_letter(words, table.rows()), table.height)
    return Ratio.total([factor * sums[word][-1] for word, factor in tally.parts()])


def tally_plus(tally, other):
    """The sum of both tallies."""
    _need_two(tally, other)
    parts = told_parts(tally.parts() + other.parts())
    need_few_parts(parts)
    return Tally(tally.columns, parts)


def tally_times(tally, number):
    """The tally with each factor times the number."""
    need_tally(tally)
    need_number(number)
    return Tally(tally.columns, [(word, factor * number) for word, factor in tally.parts()])


def tally_turned(tally):
    """The tally with each of its words turned."""
    need_tally(tally)
    return Tally(tally.columns, [(word[::-1], factor) for word, factor in tally.parts()])


def tally_product(tally, other):
    """The product of both tallies, out of the lacings of their words."""
    _need_two(tally, other)
    if _ways_together(tally, other) > MOST_WAYS:
        raise TooMany("lacings", MOST_WAYS)
    # Nothing has the length -1, so a product with it never goes beyond.
    if tally.length + other.length > MOST_LETTERS:
        raise TooMany("letters", MOST_LETTERS)
    parts = told_parts(_laced_parts(tally, other))
    if any([has_great_power(word) for word, factor in parts]):
        raise TooMany("power", MOST_POWER)
    need_few_parts(parts)
    return Tally(tally.columns, parts)


def _ways_together(tally, other):
    """How many lacings all pairs of words have, by their lengths: there may be far too many pairs to lace."""
    ours, theirs = _many_by_length(tally), _many_by_length(other)
    lengths = range(MOST_LETTERS + 1)
    return sum([ours[k] * theirs[j] * how_many(k, j) for k in lengths for j in lengths])


def _many_by_length(tally):
    many = [0 for _ in range(MOST_LETTERS + 1)]
    for word, factor in tally.parts():
        many[len(word)] = many[len(word)] + 1
    return many


def _laced_parts(tally, other):
    parts = []
    for word, factor in tally.parts():
        for further, number in other.parts():
            for lacing, ways in laced(word, further).items():
                parts.append((lacing, factor * number * ways))
    return parts


def has_great_power(word):
    """Whether a letter of the word has a power that no letter of what is passed may have."""
    return any([power > MOST_POWER for letter in word for power in letter])
