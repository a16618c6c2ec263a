"""What a desk answers to questions about the things that it keeps."""

from aheadsums.alikes import parting_rows
from aheadsums.fewest import fewest_cells
from aheadsums.forms import form_worths
from aheadsums.hangs import hangs_on
from aheadsums.making import first_alike
from aheadsums.orders import is_order_free
from aheadsums.pieces import kept_numbers
from aheadsums.programs import results, total
from aheadsums.shown import numbers_shown, thing_shown
from aheadsums.sides import side_numbers
from aheadsums.tallies import tally_worth


def answer_to(word, parts):
    """The answer, a string, to the question with this word about these things."""
    if word == "hangs":
        return _yes_or_no(hangs_on(parts[0], parts[1], parts[2]))
    if len(parts) == 2:
        return _answer_to_two(word, parts[0], parts[1])
    return _answer_to_one(word, parts[0])


def _answer_to_two(word, thing, other):
    if word == "same":
        return _yes_or_no(thing == other)
    if word == "results":
        return numbers_shown(results(thing, other))
    if word == "worths":
        return numbers_shown(form_worths(thing, other))
    if word == "kept":
        return numbers_shown(kept_numbers(thing, other))
    if word == "sum":
        return str(total(thing, other))
    if word == "worth":
        return str(tally_worth(thing, other))
    rows = parting_rows(thing, other)
    return "none" if rows is None else str(rows)


def _answer_to_one(word, thing):
    if word == "show":
        return thing_shown(thing)
    if word == "first":
        return numbers_shown(first_alike(thing))
    if word == "sides":
        return numbers_shown(side_numbers(thing))
    if word == "cells":
        return str(fewest_cells(thing))
    return _yes_or_no(is_order_free(thing))


def _yes_or_no(is_so):
    return "yes" if is_so else "no"
