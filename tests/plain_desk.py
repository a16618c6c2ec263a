"""A plain book of what a desk keeps, for the tests: it works out each answer, and each error, by the document's words.

It splits commands by itself, and calls the functions that the commands are for; it knows nothing of the desk's files.
"""

from fractions import Fraction

from aheadsums import errors
from aheadsums.alikes import parting_rows
from aheadsums.claims import is_claim, is_true
from aheadsums.fewest import fewest_cells
from aheadsums.forms import Form, ahead_of, behind_of, form_plus, form_product, form_times, form_total, form_worths
from aheadsums.hangs import hangs_on
from aheadsums.making import first_alike, form_of
from aheadsums.orders import is_order_free, mean_of_orders
from aheadsums.pieces import kept_numbers
from aheadsums.programs import Program, mirrored, results, total
from aheadsums.ratios import Ratio
from aheadsums.sides import side_numbers
from aheadsums.tables import Table, exchanged, joined, piece, turned, with_row, without_row
from aheadsums.tallies import Tally, tally_plus, tally_product, tally_worth

SORTS = {"TABLE": Table, "PROGRAM": Program, "TALLY": Tally, "FORM": Form, "NAME": (Table, Program, Tally, Form)}


def number(text):
    worth = Fraction(text)
    return Ratio(worth.numerator, worth.denominator)


def numbers(text):
    return [] if text == "-" else [number(one) for one in text.split(",")]


def word(text):
    letters = [] if text == "-" else text[1:-1].split(")(")
    return tuple(tuple(int(power) for power in letter.split(",") if power) for letter in letters)


def step(text):
    parts = text.split(",")
    return (parts[0],) + tuple(number(one) if parts[0] == "told" else int(one) for one in parts[1:])


def term(text):
    left, rest = text.split("<")
    own, right = rest.split(">")
    return word(left), word(own)[0], word(right)


def listed(text, read):
    return [] if text == "none" else [read(one) for one in text.split(";")]


def part(read):
    return lambda text: (read(text.split(":")[0]), number(text.split(":")[1]))


def plain_word(one):
    return "".join(["(" + ",".join([str(power) for power in letter]) + ")" for letter in one]) or "-"


def shown_numbers(found):
    return ",".join([str(one) for one in found]) or "-"


def shown(thing):
    if isinstance(thing, Table):
        parts = [shown_numbers(row) for row in thing.rows()]
    elif isinstance(thing, Program):
        parts = [one[0] + "," + shown_numbers(one[1:]) for one in thing.steps()]
    elif isinstance(thing, Tally):
        parts = [f"{plain_word(one)}:{factor}" for one, factor in thing.parts()]
    else:
        parts = [f"{plain_word(left)}<{plain_word((own,))}>{plain_word(right)}:{factor}"
                 for (left, own, right), factor in thing.parts()]
    return f"{thing.columns} " + (";".join(parts) or "none")


def yes(is_so):
    return "yes" if is_so else "no"


def with_number(table, at, column, one):
    if at >= table.height:
        raise errors.InvalidPosition(at)
    if column >= table.columns:
        raise errors.InvalidColumn(column)
    rows = table.rows()
    rows[at][column] = one
    return Table(table.columns, rows)


# What the names behind a word want, and what is made of all that stands there.
NEW = {
    "table": ("", lambda c, t: Table(int(c), listed(t, numbers))),
    "program": ("", lambda c, t: Program(int(c), listed(t, step))),
    "tally": ("", lambda c, t: Tally(int(c), listed(t, part(word)))),
    "form": ("", lambda c, t: Form(int(c), listed(t, part(term)))),
    "join": ("TABLE TABLE", joined),
    "piece": ("TABLE", lambda t, low, high: piece(t, int(low), int(high))),
    "make": ("PROGRAM", form_of), "total": ("FORM", form_total), "mean": ("TALLY", mean_of_orders),
    "plus": ("FORM FORM", form_plus), "by": ("FORM FORM", form_product), "plustal": ("TALLY TALLY", tally_plus),
    "bytal": ("TALLY TALLY", tally_product), "copy": ("NAME", lambda thing: thing),
}
CHANGES = {
    "put": ("TABLE", lambda t, at, row: with_row(t, int(at), numbers(row))),
    "strike": ("TABLE", lambda t, at: without_row(t, int(at))), "swap": ("TABLE", lambda t, at: exchanged(t, int(at))),
    "turn": ("TABLE", turned), "set": ("TABLE", lambda t, at, k, one: with_number(t, int(at), int(k), number(one))),
    "add": ("PROGRAM", lambda p, steps: Program(p.columns, p.steps() + listed(steps, step))),
    "mirror": ("PROGRAM", mirrored), "ahead": ("FORM", ahead_of), "behind": ("FORM", behind_of),
    "times": ("FORM", lambda f, one: form_times(f, number(one))),
}
ASKED = {
    "show": ("NAME", shown), "results": ("PROGRAM TABLE", lambda p, t: shown_numbers(results(p, t))),
    "worths": ("FORM TABLE", lambda f, t: shown_numbers(form_worths(f, t))),
    "kept": ("TALLY TABLE", lambda w, t: shown_numbers(kept_numbers(w, t))),
    "sum": ("PROGRAM TABLE", lambda p, t: str(total(p, t))),
    "worth": ("TALLY TABLE", lambda w, t: str(tally_worth(w, t))),
    "first": ("PROGRAM", lambda p: shown_numbers(first_alike(p))),
    "sides": ("FORM", lambda f: shown_numbers(side_numbers(f))),
    "parts": ("FORM FORM", lambda f, g: str(parting_rows(f, g) or "none")),
    "cells": ("FORM", lambda f: str(fewest_cells(f))), "free": ("TALLY", lambda w: yes(is_order_free(w))),
    "hangs": ("FORM", lambda f, where, k: yes(hangs_on(f, where, int(k)))),
}
CLAIMED = {"alike": "FORM FORM", "unlike": "FORM FORM", "stays": "FORM", "moves": "FORM", "orderfree": "TALLY",
           "ordered": "TALLY", "reads": "FORM", "needs": "FORM", "holds": "TALLY", "lacks": "TALLY"}


class Plain:
    """Names, labels (their claims in words), lines, what can be done again."""

    def __init__(self):
        self.names, self.labels, self.past, self.undone = {}, {}, [], []

    def now(self):
        return dict(self.names), dict(self.labels)

    def of_sort(self, name, sort):
        return isinstance(self.names.get(name), SORTS[sort])

    def things(self, parts, wanted):
        """The things of the first parts, of the wanted sorts, and the other parts."""
        sorts = wanted.split()
        for name, sort in zip(parts, sorts):
            if not self.of_sort(name, sort):
                raise errors.UnknownName(name)
        return [self.names[name] for name in parts[:len(sorts)]] + parts[len(sorts):]

    def claim(self, words):
        """The claim's tuple now; None if a name is not there, or is of another sort."""
        first, *parts = words.split(" ")
        try:
            found = self.things(parts, CLAIMED[first])
        except errors.UnknownName:
            return None
        if first in ("reads", "needs", "holds", "lacks"):
            found[1] = int(found[1])
        return (first, *found)

    def state(self, label):
        claim = self.claim(self.labels[label])
        if claim is None or not is_claim(claim):
            return "gone"
        try:
            return str(is_true(claim)).lower()
        except errors.TooMany:
            return "gone"

    def states(self):
        return {label: self.state(label) for label in self.labels}

    def do(self, line):
        first, *parts = line.split(" ")
        if first in ("undo", "redo"):
            return self.moved(first)
        if first in ASKED:
            wanted, tell = ASKED[first]
            return tell(*self.things(parts, wanted))
        if first == "same":
            self.things(parts[:1], "NAME")
            sort = [one for one in ("TABLE", "PROGRAM", "TALLY", "FORM") if self.of_sort(parts[0], one)][0]
            one, other = self.things(parts, f"{sort} {sort}")
            return yes(one == other)
        if first == "names":
            return " ".join(sorted(self.names)) or "-"
        if first in ("state", "claimed"):
            self.need_label(parts[0])
            return self.state(parts[0]) if first == "state" else self.labels[parts[0]]
        if first == "states":
            return ", ".join([f"{label} {self.state(label)}" for label in sorted(self.labels)]) or "-"
        return self.deed(line, first, parts)

    def need_label(self, label):
        if label not in self.labels:
            raise errors.UnknownLabel(label)

    def moved(self, first):
        if first == "undo" and not self.past:
            raise errors.NothingToUndo()
        if first == "redo" and not self.undone:
            raise errors.NothingToRedo()
        if first == "undo":
            line, ahead, behind = self.past.pop()
            self.undone.append((line, ahead, behind))
            self.names, self.labels = dict(ahead[0]), dict(ahead[1])
        else:
            line, ahead, behind = self.undone.pop()
            self.past.append((line, ahead, behind))
            self.names, self.labels = dict(behind[0]), dict(behind[1])
        return line

    def deed(self, line, first, parts):
        ahead, states = self.now(), self.states()
        names, labels = self.after(first, parts)
        if len(names) > 12:
            raise errors.TooMany("names", 12)
        if len(labels) > 12:
            raise errors.TooMany("labels", 12)
        if len(self.past) == 300:
            raise errors.TooMany("deeds", 300)
        self.names, self.labels = names, labels
        self.past.append((line, ahead, self.now()))
        self.undone = []
        now = self.states()
        return ", ".join([f"{label} {now[label]}" for label in sorted(now) if states.get(label) != now[label]]) or "-"

    def after(self, first, parts):
        """The names and the labels behind a deed."""
        names, labels = self.now()
        if first in NEW:
            if parts[0] in names:
                raise errors.NameTaken(parts[0])
            wanted, make = NEW[first]
            names[parts[0]] = make(*self.things(parts[1:], wanted))
        elif first in CHANGES:
            wanted, make = CHANGES[first]
            names[parts[0]] = make(*self.things(parts, wanted))
        elif first == "drop":
            self.things(parts, "NAME")
            del names[parts[0]]
        elif first == "forget":
            self.need_label(parts[0])
            del labels[parts[0]]
        else:
            if parts[0] in labels:
                raise errors.LabelTaken(parts[0])
            self.things(parts[2:], CLAIMED[parts[1]])
            labels[parts[0]] = " ".join(parts[1:])
            claim = self.claim(labels[parts[0]])
            if not is_claim(claim):
                raise errors.InvalidClaim(claim)
            is_true(claim)
        return names, labels
