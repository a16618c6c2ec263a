"""Letters, words, and sums of words over the rows of a table."""

from aheadsums.basics import is_count_to, need_columns
from aheadsums.errors import InvalidLetter, InvalidWord
from aheadsums.ratios import Ratio, as_ratio
from aheadsums.tables import need_row, need_table

MOST_LETTERS = 8
MOST_POWER = 8


def is_letter(columns, value):
    """Whether any value is a letter for so many columns."""
    need_columns(columns)
    return is_letter_to(columns, value, MOST_POWER)


def is_letter_to(columns, value, most):
    """Whether any value is a letter for so many columns, with powers that are at most this one."""
    if not isinstance(value, tuple) or len(value) != columns:
        return False
    return all([is_count_to(power, most) for power in value])


def is_word(columns, value):
    """Whether any value is a word of letters for so many columns."""
    need_columns(columns)
    return is_word_to(columns, value, MOST_POWER)


def is_word_to(columns, value, most):
    """Whether any value is a word for so many columns, with powers that are at most this one."""
    if not isinstance(value, tuple) or len(value) > MOST_LETTERS:
        return False
    return all([is_letter_to(columns, letter, most) for letter in value])


def need_letter(columns, letter):
    """InvalidColumns, InvalidLetter: unless a letter for so many columns."""
    if not is_letter(columns, letter):
        raise InvalidLetter(letter)


def need_word(columns, word):
    """InvalidColumns, InvalidWord: unless a word of letters for so many columns."""
    if not is_word(columns, word):
        raise InvalidWord(word)


def multiplied(columns, letter, other):
    """The letter whose powers are those of both added; they may go to 16."""
    need_letter(columns, letter)
    need_letter(columns, other)
    return both_letters(letter, other)


def both_letters(letter, other):
    """Two letters multiplied, of whatever powers."""
    return tuple([power + more for power, more in zip(letter, other)])


def letter_worth(columns, letter, row):
    """What the letter comes to at the row."""
    need_letter(columns, letter)
    need_row(columns, row)
    return worth_at(letter, [as_ratio(number) for number in row])


def worth_at(letter, row):
    """What a letter of whatever powers comes to at a row of Ratios."""
    top, bottom = 1, 1
    for power, number in zip(letter, row):
        for _ in range(power):
            top = top * number.top
            bottom = bottom * number.bottom
    return Ratio(top, bottom)


def word_sum(table, word):
    """The word's sum over all rows of the table."""
    return sums_ahead(table, word)[-1]


def sums_ahead(table, word):
    """The word's sums over no row, the first row, the first two, and so on, up to all rows."""
    need_table(table)
    need_word(table.columns, word)
    rows = table.rows()
    return sums_of([worths_at(letter, rows) for letter in word], table.height)


def sums_behind(table, word):
    """The word's sums over all rows, all but the first one, and so on, down to no row."""
    need_table(table)
    need_word(table.columns, word)
    rows = table.rows()[::-1]
    return sums_of([worths_at(letter, rows) for letter in word[::-1]], table.height)[::-1]


def worths_at(letter, rows):
    """What a letter comes to at each of some rows of Ratios."""
    return [worth_at(letter, row) for row in rows]


def worths_by_letter(words, rows):
    """A dict of what each letter of some words comes to at each of some rows of Ratios."""
    known = {}
    for word in words:
        for letter in word:
            if letter not in known:
                known[letter] = worths_at(letter, rows)
    return known


def sums_of(worths, height):
    """The sums ahead of a word, out of what each of its letters comes to at each of so many rows."""
    sums = [Ratio(1) for _ in range(height + 1)]
    for worth in worths:
        sums = longer_sums(sums, worth)
    return sums


def longer_sums(sums, worth):
    """The sums ahead of a word with a letter behind it, out of its own sums and the letter's worth at each row."""
    longer = [Ratio(0)]
    for at, number in enumerate(worth):
        longer.append(longer[at] + sums[at] * number)
    return longer


def sums_by_word(words, known, height):
    """A dict of the sums ahead of each of some words over so many rows, for whose letters the worths are known."""
    found = {(): [Ratio(1) for _ in range(height + 1)]}
    for word in words:
        for at, letter in enumerate(word):
            if word[:at + 1] not in found:
                found[word[:at + 1]] = longer_sums(found[word[:at]], known[letter])
    return found


def whole_sums(words, rows):
    """A dict of the sums over all of some rows of Ratios, of some words and of all that they begin with."""
    sums = sums_by_word(words, worths_by_letter(words, rows), len(rows))
    return {word: sums[word][-1] for word in sums}


def cuts(columns, word):
    """The list of the tuples of two words that make the word, the first one's length rising."""
    need_word(columns, word)
    return [(word[:at], word[at:]) for at in range(len(word) + 1)]


def turned_word(columns, word):
    """The word with its letters in the opposite sequence."""
    need_word(columns, word)
    return word[::-1]
