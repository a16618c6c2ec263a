"""Books: the things under names, the claims under labels and their states that a desk has at one time."""

from aheadsums.claims import is_claim, is_true
from aheadsums.commands import SORTS
from aheadsums.errors import InvalidClaim, LabelTaken, NameTaken, TooMany, UnknownLabel, UnknownName
from aheadsums.programs import Program
from aheadsums.tables import Table
from aheadsums.tallies import Tally

MOST_NAMES = 12
MOST_LABELS = 12


class Book:
    """Things by name, claims by label, states by label; it never changes.

    A claim is noted as its word, the kinds of what its line wants, and this: names, sides, counts.
    """

    def __init__(self, things, claims, states):
        self.things = things
        self.claims = claims
        self.states = states


def sort_of(thing):
    """The sort of what is kept."""
    if isinstance(thing, Table):
        return "table"
    if isinstance(thing, Program):
        return "program"
    return "tally" if isinstance(thing, Tally) else "form"


def _is_name_of_some(kind):
    """Whether what a command has of this kind is a name of something that is kept."""
    return kind in SORTS or kind in ("name", "alike")


def _is_kept(things, name, wanted):
    return name in things and (wanted == "name" or sort_of(things[name]) == wanted)


def need_fitting(book, kinds, values):
    """NameTaken, LabelTaken, UnknownName, UnknownLabel: unless what stands in a command fits what is kept."""
    for kind, value in zip(kinds, values):
        if kind == "new" and value in book.things:
            raise NameTaken(value)
        if kind == "fresh" and value in book.claims:
            raise LabelTaken(value)
    sort = "name"
    for kind, value in zip(kinds, values):
        if _is_name_of_some(kind):
            if not _is_kept(book.things, value, sort if kind == "alike" else kind):
                raise UnknownName(value)
            sort = sort_of(book.things[value])
    for kind, value in zip(kinds, values):
        if kind == "label":
            need_label(book, value)


def need_label(book, label):
    """UnknownLabel unless a claim is noted under the label."""
    if not isinstance(label, str) or label not in book.claims:
        raise UnknownLabel(label)


def led_to_things(things, kinds, values):
    """The list of what stands in a command, with the things in the place of their names."""
    return [things[value] if _is_name_of_some(kind) else value for kind, value in zip(kinds, values)]


def claim_now(things, claim):
    """The claim as a tuple, with these things; None if it has none of the wanted sorts, or is no claim."""
    told = _told_now(things, claim)
    return told if is_claim(told) else None


def _told_now(things, claim):
    word, kinds, values = claim
    for kind, value in zip(kinds, values):
        if _is_name_of_some(kind) and not _is_kept(things, value, kind):
            return None
    return (word,) + tuple(led_to_things(things, kinds, values))


def _state_of(things, claim):
    told = claim_now(things, claim)
    if told is None:
        return "gone"
    try:
        return "true" if is_true(told) else "false"
    except TooMany:
        return "gone"


def with_thing(book, name, thing):
    """The book in which the thing is kept under the name: TooMany."""
    things = {key: book.things[key] for key in book.things}
    things[name] = thing
    if len(things) > MOST_NAMES:
        raise TooMany("names", MOST_NAMES)
    return _with_things(book, things, name)


def without_thing(book, name):
    """The book in which nothing is kept under the name."""
    return _with_things(book, {key: book.things[key] for key in book.things if key != name}, name)


def _with_things(book, things, name):
    """The book with other things, of which just what is kept under this name is another one."""
    states = {}
    for label, claim in book.claims.items():
        states[label] = _state_of(things, claim) if _has_name(claim, name) else book.states[label]
    return Book(things, book.claims, states)


def _has_name(claim, name):
    word, kinds, values = claim
    return any([_is_name_of_some(kind) and value == name for kind, value in zip(kinds, values)])


def with_claim(book, label, claim):
    """The book in which the claim is noted under the label: InvalidClaim, TooMany."""
    told = _told_now(book.things, claim)
    if not is_claim(told):
        raise InvalidClaim(told)
    state = "true" if is_true(told) else "false"
    claims = {key: book.claims[key] for key in book.claims}
    claims[label] = claim
    if len(claims) > MOST_LABELS:
        raise TooMany("labels", MOST_LABELS)
    states = {key: book.states[key] for key in book.states}
    states[label] = state
    return Book(book.things, claims, states)


def without_claim(book, label):
    """The book in which no claim is noted under the label."""
    return Book(book.things, {key: book.claims[key] for key in book.claims if key != label},
                {key: book.states[key] for key in book.states if key != label})


def changes_told(before, after):
    """How states are others than in the book ahead of this one, told; of claims that are noted in this one."""
    return states_told({label: after.states[label] for label in after.states
                        if before.states.get(label) != after.states[label]})


def states_told(states):
    """The labels, sorted, each with its state, `-` for none."""
    return ", ".join([label + " " + states[label] for label in sorted(states)]) if states else "-"


def claim_told(claim):
    """The claim, in the words of its command behind the label."""
    word, kinds, values = claim
    return " ".join([word] + [str(value) for value in values])
