"""Forms of programs, programs of forms, and forms put into forms."""

from aheadsums.basics import is_list, need_columns
from aheadsums.errors import InvalidOthers, TooMany
from aheadsums.forms import (Form, ahead_of, bare_letter, behind_of, form_of_letter, form_of_number, form_plus,
                             form_product, form_times, need_form, term_length)
from aheadsums.programs import Program, need_program

MOST_WEIGHT = 120


def form_of(program):
    """The form of the program's last step."""
    need_program(program)
    return _forms_of_steps(program)[-1]


def _forms_of_steps(program):
    """The list of the forms of all steps: one that goes beyond a bound counts though no other step hangs on it."""
    forms = []
    for step in program.steps():
        forms.append(_form_of_step(program.columns, step, forms))
    return forms


def _form_of_step(columns, step, forms):
    """The form of a step, out of those of the steps ahead of it."""
    word = step[0]
    if word == "column":
        return form_of_letter(columns, _letter_of_column(columns, step[1]), 1)
    if word == "told":
        return form_of_number(columns, step[1])
    first = forms[step[1]]
    if word == "ahead":
        return ahead_of(first)
    if word == "behind":
        return behind_of(first)
    second = forms[step[2]]
    if word == "sum":
        return form_plus(first, second)
    if word == "less":
        return form_plus(first, form_times(second, -1))
    return form_product(first, second)


def _letter_of_column(columns, column):
    bare = bare_letter(columns)
    return bare[:column] + (1,) + bare[column + 1:]


def first_alike(program):
    """For each step the position of the first step that makes a like column for all tables."""
    need_program(program)
    known = {}
    firsts = []
    for at, form in enumerate(_forms_of_steps(program)):
        firsts.append(known.setdefault(_key(form), at))
    return firsts


def _key(form):
    """What is the same for the same forms alone; Ratios cannot be looked up."""
    return tuple([(term, factor.top, factor.bottom) for term, factor in form.parts()])


def program_of(form):
    """A program with this form."""
    need_form(form)
    if _weight(form) > MOST_WEIGHT:
        raise TooMany("weight", MOST_WEIGHT)
    # The column k is the step k, and the number 1 stands behind all columns.
    steps = [("column", column) for column in range(form.columns)]
    steps.append(("told", 1))
    so_far = None
    for term, factor in form.parts():
        made = _with_term(steps, form.columns, term, factor)
        so_far = made if so_far is None else _with_step(steps, ("sum", so_far, made))
    if so_far is None:
        steps.append(("told", 0))
    return Program(form.columns, steps)


def _weight(form):
    return sum([2 + term_length(term) + _powers(term) for term, factor in form.parts()])


def _powers(term):
    left, own, right = term
    return sum([sum(letter) for letter in left + (own,) + right])


def _with_step(steps, step):
    """The position of the step, which is put behind the steps."""
    steps.append(step)
    return len(steps) - 1


def _with_term(steps, one, term, factor):
    """The position of a step that makes the term times the factor, where `one` is that of the number 1."""
    left, own, right = term
    made = _with_step(steps, ("told", factor))
    for letter in left:
        made = _with_step(steps, ("ahead", _with_letter(steps, made, letter)))
    made = _with_letter(steps, made, own)
    if not right:
        return made
    behind = one
    for letter in right[::-1]:
        behind = _with_step(steps, ("behind", _with_letter(steps, behind, letter)))
    return _with_step(steps, ("times", made, behind))


def _with_letter(steps, at, letter):
    """The position of a step that makes what the one at a position made, times the letter."""
    made = at
    for column, power in enumerate(letter):
        for _ in range(power):
            made = _with_step(steps, ("times", made, column))
    return made


def form_put_into(form, columns, others):
    """The form over the columns that the other forms, for so many columns, tell."""
    need_form(form)
    need_columns(columns)
    if not _are_others(others, columns, form.columns):
        raise InvalidOthers(others)
    led = {}
    whole = Form(columns, [])
    for (left, own, right), factor in form.parts():
        ahead = _left_led(left, columns, others, led)
        at_row = _letter_led(own, columns, others, led)
        behind = _right_led(right, columns, others, led)
        both = form_product(form_product(ahead, at_row), behind)
        whole = form_plus(whole, form_times(both, factor))
    return whole


def _are_others(value, columns, many):
    if not is_list(value) or len(value) != many:
        return False
    return all([isinstance(other, Form) and other.columns == columns for other in value])


def _letter_led(letter, columns, others, led):
    """What a letter is led to; `led` keeps it, as the same works would come to the same again."""
    if letter not in led:
        made = form_of_number(columns, 1)
        for other, power in zip(others, letter):
            for _ in range(power):
                made = form_product(made, other)
        led[letter] = made
    return led[letter]


def _left_led(word, columns, others, led):
    made = form_of_number(columns, 1)
    for letter in word:
        made = ahead_of(form_product(made, _letter_led(letter, columns, others, led)))
    return made


def _right_led(word, columns, others, led):
    made = form_of_number(columns, 1)
    for letter in word[::-1]:
        made = behind_of(form_product(_letter_led(letter, columns, others, led), made))
    return made
