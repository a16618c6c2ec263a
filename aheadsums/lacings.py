"""Lacings of two words: the ways to go through both at once."""

from aheadsums.basics import is_count_to
from aheadsums.errors import InvalidMany, TooMany
from aheadsums.words import MOST_LETTERS, both_letters, need_word

MOST_LACINGS = 400


def how_many(many, other):
    """In how many ways two words of so many letters are laced."""
    _need_many(many)
    _need_many(other)
    ways = [1 for _ in range(other + 1)]
    for _ in range(many):
        further = [1]
        for at in range(other):
            further.append(further[at] + ways[at] + ways[at + 1])
        ways = further
    return ways[-1]


def _need_many(many):
    if not is_count_to(many, MOST_LETTERS):
        raise InvalidMany(many)


def lacings(columns, word, other):
    """The sorted list of the tuples of a lacing and how many ways make it."""
    need_word(columns, word)
    need_word(columns, other)
    if how_many(len(word), len(other)) > MOST_LACINGS:
        raise TooMany("lacings", MOST_LACINGS)
    ways = laced(word, other)
    return [(lacing, ways[lacing]) for lacing in sorted(ways)]


def laced(word, other):
    """A dict of the lacings of two words, each with how many ways make it."""
    line = [{other[:at]: 1} for at in range(len(other) + 1)]
    for letter in word:
        line = _next_line(line, letter, other)
    return line[-1]


def _next_line(line, letter, other):
    """The lacings of one letter more, with each begin of the other word, out of those without this letter."""
    further = [_with_letter([(line[0], letter)])]
    for at, its in enumerate(other):
        both = both_letters(letter, its)
        further.append(_with_letter([(line[at + 1], letter), (further[at], its), (line[at], both)]))
    return further


def _with_letter(ways_and_letters):
    """The lacings in which a letter stands behind each of the lacings beside it, with their ways added."""
    found = {}
    for ways, letter in ways_and_letters:
        for lacing, many in ways.items():
            longer = lacing + (letter,)
            found[longer] = found.get(longer, 0) + many
    return found
