"""Forms: sums of terms with factors, and what they come to at each row of a table."""

from aheadsums.basics import need_columns, need_like_columns
from aheadsums.errors import InvalidForm, InvalidParts, TooMany
from aheadsums.lacings import how_many, laced
from aheadsums.ratios import Ratio, need_number
from aheadsums.tables import need_table
from aheadsums.tallies import MOST_WAYS, Tally, are_parts, has_great_power, need_few_parts, told_parts
from aheadsums.words import (MOST_LETTERS, MOST_POWER, both_letters, is_letter, is_word, sums_by_word,
                             worths_by_letter)


class Form:
    """A sum of terms for some columns, each with a factor that is not 0; it never changes."""

    def __init__(self, columns, parts):
        need_columns(columns)
        if not are_parts(columns, parts, is_term):
            raise InvalidParts(parts)
        self._columns = columns
        self._parts = told_parts(parts)

    @property
    def columns(self):
        """How many columns the tables have that it is for."""
        return self._columns

    @property
    def length(self):
        """The greatest length of its terms, 0 of nothing."""
        return max([term_length(term) for term, factor in self._parts], default=0)

    def parts(self):
        """The sorted list of the tuples of a term and its factor, a Ratio."""
        return list(self._parts)

    def __eq__(self, other):
        return isinstance(other, Form) and self._columns == other._columns and self._parts == other._parts


def is_term(columns, value):
    """Whether any value is a term of letters for so many columns."""
    if not isinstance(value, tuple) or len(value) != 3:
        return False
    left, own, right = value
    if not is_word(columns, left) or not is_letter(columns, own) or not is_word(columns, right):
        return False
    return term_length(value) <= MOST_LETTERS


def term_length(term):
    """How many letters a term has, its own one counted."""
    return len(term[0]) + 1 + len(term[2])


def bare_letter(columns):
    """The letter for so many columns that comes to 1 at each row."""
    return (0,) * columns


def form_of_letter(columns, letter, number):
    """The form that comes to so many times what the letter comes to at the row."""
    return Form(columns, [(((), letter, ()), number)])


def form_of_number(columns, number):
    """The form that comes to the number at each row."""
    return form_of_letter(columns, bare_letter(columns), number)


def need_form(form):
    """InvalidForm unless a Form."""
    if not isinstance(form, Form):
        raise InvalidForm(form)


def need_two_forms(form, other):
    """InvalidForm, UnlikeColumns: unless both are Forms for as many columns."""
    need_form(form)
    need_form(other)
    need_like_columns(form, other)


def form_worths(form, table):
    """The list of what the form comes to at each row of the table."""
    need_form(form)
    need_table(table)
    need_like_columns(form, table)
    return _worths(form.parts(), table.rows())


def _worths(parts, rows):
    known = worths_by_letter([_in_one_word(term) for term, factor in parts], rows)
    turned = {letter: known[letter][::-1] for letter in known}
    # Seen from the last row, a sum over the rows behind is one over rows ahead.
    ahead = sums_by_word([term[0] for term, factor in parts], known, len(rows))
    behind = sums_by_word([term[2][::-1] for term, factor in parts], turned, len(rows))
    worths = [Ratio(0) for _ in rows]
    for (left, own, right), factor in parts:
        its_ahead, its_behind = ahead[left], behind[right[::-1]]
        for at, number in enumerate(known[own]):
            sides = its_ahead[at] * its_behind[len(rows) - 1 - at]
            if sides.sign != 0:
                worths[at] = worths[at] + factor * number * sides
    return worths


def form_plus(form, other):
    """The sum of both forms."""
    need_two_forms(form, other)
    return _form_of_few(form.columns, told_parts(form.parts() + other.parts()))


def form_times(form, number):
    """The form with each factor times the number."""
    need_form(form)
    need_number(number)
    return Form(form.columns, times_parts(form.parts(), number))


def times_parts(parts, number):
    """The parts with each factor times the number."""
    return [(told, factor * number) for told, factor in parts]


def _form_of_few(columns, parts):
    need_few_parts(parts)
    return Form(columns, parts)


def form_product(form, other):
    """The product of both forms, out of the lacings of the words of their terms."""
    need_two_forms(form, other)
    if _ways_together(form, other) > MOST_WAYS:
        raise TooMany("lacings", MOST_WAYS)
    # Nothing has the length 0, so a product with it never goes beyond.
    if form.length + other.length - 1 > MOST_LETTERS:
        raise TooMany("letters", MOST_LETTERS)
    parts = told_parts(_laced_parts(form, other))
    if any([has_great_power(_in_one_word(term)) for term, factor in parts]):
        raise TooMany("power", MOST_POWER)
    return _form_of_few(form.columns, parts)


def _ways_together(form, other):
    """How many lacings all pairs of terms have, by their lengths: there may be far too many pairs to lace."""
    ways = 0
    theirs = _many_by_lengths(other)
    for (left, right), many in _many_by_lengths(form).items():
        for (its_left, its_right), more in theirs.items():
            ways = ways + many * more * how_many(left, its_left) * how_many(right, its_right)
    return ways


def _many_by_lengths(form):
    """A dict of how many terms have left words and right words of such lengths."""
    many = {}
    for (left, own, right), factor in form.parts():
        lengths = (len(left), len(right))
        many[lengths] = many.get(lengths, 0) + 1
    return many


def _laced_parts(form, other):
    parts = []
    for term, factor in form.parts():
        for further, number in other.parts():
            parts.extend(_laced_terms(term, further, factor * number))
    return parts


def _laced_terms(term, other, factor):
    """The parts that the product of two terms is made of, where the product of their factors is this one."""
    left, own, right = term
    its_left, its_own, its_right = other
    both = both_letters(own, its_own)
    rights = list(laced(right, its_right).items())
    parts = []
    for lacing, ways in laced(left, its_left).items():
        for further, more in rights:
            parts.append(((lacing, both, further), factor * (ways * more)))
    return parts


def _in_one_word(term):
    left, own, right = term
    return left + (own,) + right


def form_turned(form):
    """The form with each of its terms turned."""
    need_form(form)
    return Form(form.columns, _turned_parts(form.parts()))


def _turned_parts(parts):
    return [((right[::-1], own, left[::-1]), factor) for (left, own, right), factor in parts]


def ahead_of(form):
    """The form that comes to the sum of what this one comes to at all rows ahead."""
    need_form(form)
    _need_place_for_a_letter(form)
    return _form_of_few(form.columns, told_parts(_parts_ahead(form.columns, form.parts())))


def behind_of(form):
    """The form that comes to the sum of what this one comes to at all rows behind."""
    need_form(form)
    _need_place_for_a_letter(form)
    ahead = _parts_ahead(form.columns, _turned_parts(form.parts()))
    return _form_of_few(form.columns, told_parts(_turned_parts(ahead)))


def _need_place_for_a_letter(form):
    if form.length == MOST_LETTERS:
        raise TooMany("letters", MOST_LETTERS)


def _parts_ahead(columns, parts):
    """The parts of the sum ahead: the rows behind the summed one stand ahead of the row, at it, or behind it."""
    bare = bare_letter(columns)
    found = []
    for (left, own, right), factor in parts:
        for at in range(len(right) + 1):
            longer = left + (own,) + right[:at]
            found.append(((longer, bare, right[at:]), factor))
            if at < len(right):
                found.append(((longer, right[at], right[at + 1:]), factor))
    return found


def form_total(form):
    """The tally that comes to the sum of what the form comes to at all rows."""
    need_form(form)
    return Tally(form.columns, [(_in_one_word(term), factor) for term, factor in form.parts()])
