"""Tables, programs, tallies, forms, runs and words, read from texts, and the wrong lines of other texts."""

from aheadsums.basics import MOST_COLUMNS, need_columns
from aheadsums.errors import InvalidText
from aheadsums.figures import count_of, letter_of, number_of, word_of
from aheadsums.forms import Form, is_term
from aheadsums.programs import MOST_STEPS, Program, is_step
from aheadsums.runs import MOST_LIKE_ROWS, MOST_LOTS, Runs
from aheadsums.tables import MOST_ROWS, Table
from aheadsums.tallies import MOST_PARTS, Tally
from aheadsums.words import is_word

MOST_FIGURES = 400


def read_word(columns, text):
    """The word that is written in one line."""
    need_columns(columns)
    lines = _lines_of(text)
    word = word_of(lines[0])
    if not is_word(columns, word):
        raise InvalidText(1)
    if len(lines) > 1:
        raise InvalidText(2)
    return word


def read_table(text):
    """The table that is written."""
    columns, lines = _opened(text, "table")
    return Table(columns, _all_read(lines, columns, _row_of, MOST_ROWS))


def read_program(text):
    """The program that is written."""
    columns, lines = _opened(text, "program")
    steps = _all_read(lines, columns, _step_of, MOST_STEPS)
    if not steps:
        raise InvalidText(2)
    return Program(columns, steps)


def read_tally(text):
    """The tally that is written."""
    columns, lines = _opened(text, "tally")
    return Tally(columns, _all_read(lines, columns, _part_of_tally, MOST_PARTS))


def read_form(text):
    """The form that is written."""
    columns, lines = _opened(text, "form")
    return Form(columns, _all_read(lines, columns, _part_of_form, MOST_PARTS))


def read_runs(text):
    """The runs that are written."""
    columns, lines = _opened(text, "runs")
    return Runs(columns, _all_read(lines, columns, _lot_of, MOST_LOTS))


def _lines_of(text):
    if not isinstance(text, str):
        raise InvalidText(None)
    return text.split("\n")


def _opened(text, word):
    """The number of columns in the first line, behind this word, and the other lines."""
    first, *lines = _lines_of(text)
    parts = first.split(" ")
    columns = count_of(parts[1], 1) if len(parts) == 2 and parts[0] == word else None
    if columns is None or columns > MOST_COLUMNS:
        raise InvalidText(1)
    return columns, lines


def _all_read(lines, columns, parse, most):
    """What each of at most so many lines behind the first one is read as, out of its parts and its place."""
    found = []
    for at, line in enumerate(lines):
        one = parse(columns, at, line.split(" ")) if at < most else None
        if one is None:
            raise InvalidText(at + 2)
        found.append(one)
    return found


def _row_of(columns, at, parts):
    return _numbers_of(columns, parts[1:]) if parts[0] == "row" else None


def _numbers_of(columns, parts):
    """As many Ratios as columns."""
    numbers = [number_of(part, MOST_FIGURES) for part in parts]
    if len(numbers) != columns or any([number is None for number in numbers]):
        return None
    return numbers


def _step_of(columns, at, parts):
    word = parts[0]
    if word == "told":
        step = (word,) + tuple([number_of(part, MOST_FIGURES) for part in parts[1:]])
    else:
        step = (word,) + tuple([count_of(part, MOST_FIGURES) for part in parts[1:]])
    return step if is_step(columns, at, step) else None


def _part_of_tally(columns, at, parts):
    number = number_of(parts[0], MOST_FIGURES)
    if number is None or len(parts) != 2:
        return None
    word = word_of(parts[1])
    return (word, number) if is_word(columns, word) else None


def _part_of_form(columns, at, parts):
    number = number_of(parts[0], MOST_FIGURES)
    if number is None or len(parts) != 6 or parts[2] != "<" or parts[4] != ">":
        return None
    term = (word_of(parts[1]), letter_of(parts[3]), word_of(parts[5]))
    return (term, number) if is_term(columns, term) else None


def _lot_of(columns, at, parts):
    many = count_of(parts[0], MOST_FIGURES)
    if many is None or many > MOST_LIKE_ROWS or len(parts) < 2 or parts[1] != "times":
        return None
    row = _numbers_of(columns, parts[2:])
    return None if row is None else (row, many)
