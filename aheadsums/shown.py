"""What a desk keeps, told as commands tell it."""

from aheadsums.books import sort_of
from aheadsums.texts import written_letter, written_word


def numbers_shown(numbers):
    """NUMBERS, with `,` between, `-` for none."""
    return ",".join([str(number) for number in numbers]) if numbers else "-"


def thing_shown(thing):
    """The thing's columns, a blank, and its rows, steps, parts or terms."""
    return str(thing.columns) + " " + _inside(thing)


def _inside(thing):
    sort = sort_of(thing)
    if sort == "table":
        return _with_marks([numbers_shown(row) for row in thing.rows()])
    if sort == "program":
        return _with_marks([step[0] + "," + numbers_shown(step[1:]) for step in thing.steps()])
    if sort == "tally":
        return _with_marks([written_word(word) + ":" + str(factor) for word, factor in thing.parts()])
    return _with_marks([_term_shown(term) + ":" + str(factor) for term, factor in thing.parts()])


def _with_marks(texts):
    return ";".join(texts) if texts else "none"


def _term_shown(term):
    left, own, right = term
    return written_word(left) + "<" + written_letter(own) + ">" + written_word(right)
