"""The lots of words: which letters they have, and how often each."""

from math import factorial


def lot_of(word):
    """The letters of the word, sorted: the same for words with the same lot alone."""
    return tuple(sorted(word))


def how_many_words(lot):
    """How many words have this lot."""
    many = factorial(len(lot))
    for letter in sorted(set(lot)):
        many = many // factorial(lot.count(letter))
    return many


def words_of(lot):
    """The sorted list of the words that have this lot."""
    found = {(): True}
    for letter in lot:
        longer = {}
        for word in found:
            for at in range(len(word) + 1):
                longer[word[:at] + (letter,) + word[at:]] = True
        found = longer
    return sorted(found)
