"""Numerals, numbers, letters and words, read from texts; what is not written so is read as None."""

from aheadsums.ratios import Ratio

FIGURES = "0123456789"
MOST_POWERS = 3


def is_numeral(text, most):
    """Whether the text is one to so many figures, the first one not 0 unless it is the only one."""
    if len(text) < 1 or len(text) > most or (text[0] == "0" and len(text) > 1):
        return False
    return all([one in FIGURES for one in text])


def count_of(text, most):
    """The COUNT that is written with at most so many figures."""
    return int(text) if is_numeral(text, most) else None


def integer_of(text, most):
    """The INTEGER that is written with at most so many figures, `-` ahead of them if it is below 0."""
    if text.startswith("-"):
        return int(text) if is_numeral(text[1:], most) and text != "-0" else None
    return count_of(text, most)


def number_of(text, most):
    """The Ratio that is written with at most so many figures above and below the stroke, if there is one."""
    parts = text.split("/")
    top = integer_of(parts[0], most)
    if top is None or len(parts) > 2:
        return None
    if len(parts) == 1:
        return Ratio(top)
    bottom = count_of(parts[1], most)
    return Ratio(top, bottom) if bottom else None


def word_of(text):
    """The word of letters with none to three powers of one figure each, of however many letters."""
    if text == "-":
        return ()
    if len(text) < 2 or text[0] != "(" or text[-1] != ")":
        return None
    letters = [_powers_of(part) for part in text[1:-1].split(")(")]
    return None if any([letter is None for letter in letters]) else tuple(letters)


def letter_of(text):
    """The letter with none to three powers of one figure each."""
    word = word_of(text)
    return word[0] if word and len(word) == 1 else None


def _powers_of(text):
    if text == "":
        return ()
    parts = text.split(",")
    if len(parts) > MOST_POWERS or not all([is_numeral(part, 1) for part in parts]):
        return None
    return tuple([int(part) for part in parts])
