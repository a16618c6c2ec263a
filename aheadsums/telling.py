"""Asked tables, and the one form that tells what was answered of them."""

from aheadsums.basics import is_count_to, is_list, need_columns
from aheadsums.errors import InvalidAnswers, InvalidMany, TooMany
from aheadsums.forms import Form, form_worths, need_form, term_length
from aheadsums.ratios import Ratio, are_numbers
from aheadsums.tables import Table
from aheadsums.words import is_word_to

MOST_ASKED_LETTERS = 4
MOST_ASKED_POWER = 3
MOST_ASKED = 100


def asked(columns, letters, power):
    """The list of the asked tables: all with at most so many rows of INTEGERS from 0 to the power."""
    need_columns(columns)
    _need_letters(letters)
    _need_power(power)
    if sum([_many_asked(columns, height, power) for height in range(1, letters + 1)]) > MOST_ASKED:
        raise TooMany("tables", MOST_ASKED)
    return [table for height in range(1, letters + 1) for table in _asked_of(columns, height, power)]


def _need_letters(letters):
    if not is_count_to(letters, MOST_ASKED_LETTERS) or letters == 0:
        raise InvalidMany(letters)


def _need_power(power):
    if not is_count_to(power, MOST_ASKED_POWER):
        raise InvalidMany(power)


def _many_asked(columns, height, power):
    many = 1
    for _ in range(columns * height):
        many = many * (power + 1)
    return many


def _asked_of(columns, height, power):
    """The asked tables of so many rows, by their rows."""
    return [Table(columns, _rows(numbers, columns, height)) for numbers in _all_numbers(columns * height, power)]


def _all_numbers(many, most):
    """The sorted list of the tuples of so many COUNTS that are at most this one."""
    found = [()]
    for _ in range(many):
        found = [numbers + (number,) for numbers in found for number in range(most + 1)]
    return found


def _rows(numbers, columns, height):
    """A tuple of numbers cut into a tuple of so many rows, or letters."""
    return tuple([numbers[at * columns:(at + 1) * columns] for at in range(height)])


def told_back(columns, letters, power, answers):
    """The form, with terms in these bounds, that tells these results of all rows of the asked tables."""
    tables = asked(columns, letters, power)
    if not _are_answers(answers, tables):
        raise InvalidAnswers(answers)
    parts = []
    for height in range(1, letters + 1):
        # Of tables of so many rows longer terms tell nothing, and shorter ones are known by now.
        known = Form(columns, parts)
        left_over = {}
        for table, answer in zip(tables, answers):
            if table.height == height:
                worths = form_worths(known, table)
                left_over[_place(table)] = [number - worth for number, worth in zip(answer, worths)]
        for at in range(height):
            wanted = {numbers: left_over[numbers][at] for numbers in left_over}
            parts.extend(_parts_at(columns, height, at, _factors(wanted, columns * height, power)))
    return Form(columns, parts)


def _are_answers(value, tables):
    if not is_list(value) or len(value) != len(tables):
        return False
    return all([are_numbers(answer, table.height) for answer, table in zip(value, tables)])


def _place(table):
    """All numbers of an asked table, as a tuple of INTEGERS."""
    return tuple([number.top for row in table.rows() for number in row])


def _parts_at(columns, height, at, factors):
    """The parts with so many letters, of which so many are left ones, out of their factors by all powers."""
    parts = []
    for powers, factor in factors.items():
        letters = _rows(powers, columns, height)
        parts.append(((letters[:at], letters[at], letters[at + 1:]), factor))
    return parts


def _factors(wanted, many, power):
    """The factors, by powers, of the polynomial of so many numbers that comes to what is wanted, by numbers."""
    shares = _shares(power)
    found = wanted
    for at in range(many):
        found = {place: _shared(found, place, at, shares) for place in found}
    return found


def _shared(found, place, at, shares):
    """What the numbers that differ at one place come to together for the power that stands there."""
    many = shares[place[at]]
    return Ratio.total([share * found[place[:at] + (number,) + place[at + 1:]] for number, share in enumerate(many)])


def _shares(power):
    """For each power to this one: the factor that it has in the polynomial that is 1 at a number, 0 at the others."""
    polynomials = [_one_at(number, power) for number in range(power + 1)]
    return [[polynomial[at] for polynomial in polynomials] for at in range(power + 1)]


def _one_at(number, power):
    """The factors of the polynomial that is 1 at the number, and 0 at all others from 0 to the power."""
    factors = [Ratio(1)]
    for other in range(power + 1):
        if other != number:
            longer = [Ratio(0)] + factors
            shorter = [factor * -other for factor in factors] + [Ratio(0)]
            factors = [(one + two).over(number - other) for one, two in zip(longer, shorter)]
    return factors


def fits(form, letters, power):
    """Whether all terms have at most so many letters, all powers being at most so great."""
    need_form(form)
    _need_letters(letters)
    _need_power(power)
    return all([_fits(form.columns, term, letters, power) for term, factor in form.parts()])


def _fits(columns, term, letters, power):
    left, own, right = term
    return term_length(term) <= letters and is_word_to(columns, left + (own,) + right, power)
