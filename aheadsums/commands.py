"""Commands of a desk: names, and what stands behind each word."""

from aheadsums.figures import FIGURES, count_of, letter_of, number_of, word_of
from aheadsums.hangs import PLACES, SIDES
from aheadsums.programs import OF_ONE_STEP, OF_TWO_STEPS
from aheadsums.words import MOST_LETTERS

SMALL_LETTERS = "abcdefghijklmnopqrstuvwxyz"
MOST_NAME = 8
MOST_COUNT_FIGURES = 2
MOST_NUMBER_FIGURES = 6
MOST_ELEMENTS = 60

# What stands behind the words; "new" and "fresh" are a name and a label that are not taken, "alike" is a name of
# something of the sort of the name ahead of it.
DEEDS = {
    "table": ("new", "count", "rows"), "program": ("new", "count", "steps"), "tally": ("new", "count", "parts"),
    "form": ("new", "count", "terms"), "join": ("new", "table", "table"), "piece": ("new", "table", "count", "count"),
    "make": ("new", "program"), "total": ("new", "form"), "mean": ("new", "tally"), "plus": ("new", "form", "form"),
    "by": ("new", "form", "form"), "plustal": ("new", "tally", "tally"), "bytal": ("new", "tally", "tally"),
    "put": ("table", "count", "numbers"), "strike": ("table", "count"), "swap": ("table", "count"),
    "turn": ("table",), "set": ("table", "count", "count", "number"), "add": ("program", "steps"),
    "mirror": ("program",), "ahead": ("form",), "behind": ("form",), "times": ("form", "number"),
    "copy": ("new", "name"), "drop": ("name",), "forget": ("label",),
}
CLAIMS = {
    "alike": ("form", "form"), "unlike": ("form", "form"), "stays": ("form", "side"), "moves": ("form", "side"),
    "orderfree": ("tally",), "ordered": ("tally",), "reads": ("form", "count"), "needs": ("form", "count"),
    "holds": ("tally", "count"), "lacks": ("tally", "count"),
}
QUESTIONS = {
    "undo": (), "redo": (), "state": ("label",), "states": (), "claimed": ("label",), "names": (), "show": ("name",),
    "same": ("name", "alike"), "results": ("program", "table"), "worths": ("form", "table"),
    "kept": ("tally", "table"), "sum": ("program", "table"), "worth": ("tally", "table"), "first": ("program",),
    "sides": ("form",), "parts": ("form", "form"), "cells": ("form",), "free": ("tally",),
    "hangs": ("form", "where", "count"),
}
SORTS = ("table", "program", "tally", "form")
NAMED = ("new", "fresh", "name", "alike", "label", "table", "program", "tally", "form")


def is_name(value):
    """Whether any value is a name."""
    if not isinstance(value, str) or len(value) < 1 or len(value) > MOST_NAME:
        return False
    return value[0] in SMALL_LETTERS and all([one in SMALL_LETTERS + FIGURES for one in value])


def is_command(value):
    """Whether any value is a string that is a command by its words alone."""
    return parsed(value) is not None


def is_deed(value):
    """Whether any value is a string that is a deed by its words alone."""
    command = parsed(value)
    return command is not None and is_word_of_deed(command[0])


def is_word_of_deed(word):
    """Whether a command with this word is a deed."""
    return word == "claim" or word in DEEDS


def parsed(value):
    """The word of a command, the kinds of what stands behind it, and what this is; None if it is no command."""
    if not isinstance(value, str):
        return None
    word, *parts = value.split(" ")
    kinds = _kinds_of(word, parts)
    if kinds is None or len(kinds) != len(parts):
        return None
    values = [_value_of(kind, part) for kind, part in zip(kinds, parts)]
    return None if any([one is None for one in values]) else (word, kinds, values)


def _kinds_of(word, parts):
    if word == "claim":
        if len(parts) < 2 or parts[1] not in CLAIMS:
            return None
        return ("fresh", "word") + CLAIMS[parts[1]]
    return DEEDS.get(word, QUESTIONS.get(word))


def _value_of(kind, part):
    """What a part of a command of this kind is; None if it is none of this kind."""
    if kind in NAMED:
        return part if is_name(part) else None
    if kind == "count":
        return count_of(part, MOST_COUNT_FIGURES)
    if kind == "number":
        return _number_of(part)
    if kind == "numbers":
        return _numbers_of(part)
    if kind == "side":
        return part if part in SIDES else None
    if kind == "where":
        return part if part in PLACES else None
    if kind == "word":
        return part
    return _list_of(kind, part)


def _list_of(kind, part):
    """What a part is that has `;` between what it lists; `none` stands for none, but not of steps."""
    if kind == "steps":
        return _all_of(part.split(";"), _step_of)
    if part == "none":
        return []
    if kind == "rows":
        return _all_of(part.split(";"), _numbers_of)
    if kind == "parts":
        return _all_of(part.split(";"), _part_of)
    return _all_of(part.split(";"), _term_of)


def _all_of(texts, parse):
    """What each of the texts is; None if one is nothing, or if they are too many."""
    if len(texts) > MOST_ELEMENTS:
        return None
    found = [parse(text) for text in texts]
    return None if any([one is None for one in found]) else found


def _number_of(text):
    """The Ratio that is written just as it is told."""
    number = number_of(text, MOST_NUMBER_FIGURES)
    return number if number is not None and str(number) == text else None


def _numbers_of(text):
    return [] if text == "-" else _all_of(text.split(","), _number_of)


def _step_of(text):
    """The step, whatever its places."""
    word, *parts = text.split(",")
    if word == "told":
        values = [_number_of(part) for part in parts]
    else:
        values = [count_of(part, MOST_COUNT_FIGURES) for part in parts]
    many = _many_behind(word)
    return None if len(values) != many or any([one is None for one in values]) else (word,) + tuple(values)


def _many_behind(word):
    """How much stands behind the word of a step; None if it is no such word."""
    if word in ("column", "told") or word in OF_ONE_STEP:
        return 1
    return 2 if word in OF_TWO_STEPS else None


def _word_of(text):
    """The word of at most eight letters, whatever the columns."""
    word = word_of(text)
    return word if word is not None and len(word) <= MOST_LETTERS else None


def _part_of(text):
    """The tuple of a word and a Ratio."""
    return _before_number(text, _word_of)


def _term_of(text):
    """The tuple of a term, whatever its length, and a Ratio."""
    return _before_number(text, _left_own_right)


def _before_number(text, parse):
    parts = text.split(":")
    if len(parts) != 2:
        return None
    told, number = parse(parts[0]), _number_of(parts[1])
    return None if told is None or number is None else (told, number)


def _left_own_right(text):
    left, mark, rest = text.partition("<")
    own, further, right = rest.partition(">")
    if mark == "" or further == "":
        return None
    term = (_word_of(left), letter_of(own), _word_of(right))
    return None if any([part is None for part in term]) else term
