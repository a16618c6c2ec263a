"""Forms that tell the same for all tables, and least tables that part the others."""

from aheadsums.forms import form_worths, need_two_forms, term_length, times_parts
from aheadsums.showing import shortest_parts, showing_table
from aheadsums.tables import is_table_with_place
from aheadsums.tallies import told_parts


def parting_rows(form, other):
    """How many rows the least parting of both forms has; None if they are alike."""
    need_two_forms(form, other)
    return min([term_length(term) for term, factor in _unlike_parts(form, other)], default=None)


def _unlike_parts(form, other):
    """The parts of the form less the other one; there may be more of them than a form has."""
    return told_parts(form.parts() + times_parts(other.parts(), -1))


def least_unlike(form, other):
    """The sorted list of the shortest unlike terms of both forms."""
    need_two_forms(form, other)
    return [term for term, factor in shortest_parts(_unlike_parts(form, other))]


def parting(form, other):
    """A least table, and the position of a row of it at which the results are unlike; None if there is none."""
    need_two_forms(form, other)
    unlike = _unlike_parts(form, other)
    return showing_table(form.columns, unlike) if unlike else None


def is_parting(form, other, value):
    """Whether any value is a table, of however many rows, and a row's position at which the results are unlike."""
    need_two_forms(form, other)
    if not is_table_with_place(form.columns, value):
        return False
    table, position = value
    return form_worths(form, table)[position] != form_worths(other, table)[position]
