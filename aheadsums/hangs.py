"""What the results of a form hang on: further rows ahead or behind, and columns."""

from aheadsums.basics import is_count
from aheadsums.errors import InvalidColumn, InvalidSide, InvalidWhere
from aheadsums.forms import form_worths, need_form
from aheadsums.ratios import are_numbers
from aheadsums.showing import showing_place, showing_table
from aheadsums.tables import MOST_ROWS, Table, is_place, is_table_for, with_row

SIDES = ("ahead", "behind")
PLACES = ("ahead", "own", "behind")


def stays(form, side):
    """Whether no result changes when rows are put there."""
    _need_side(form, side)
    return not _moved_parts(form, side)


def _need_side(form, side):
    need_form(form)
    if not isinstance(side, str) or side not in SIDES:
        raise InvalidSide(side)


def _moved_parts(form, side):
    """The parts with a word of one letter or more for the rows on this side."""
    return [(term, factor) for term, factor in form.parts() if _letters_at(term, side)]


def _letters_at(term, where):
    left, own, right = term
    if where == "ahead":
        return left
    if where == "behind":
        return right
    return (own,)


def moving(form, side):
    """A table, a further row and the position of a row whose result this changes; None if the form stays."""
    _need_side(form, side)
    moved = _moved_parts(form, side)
    if not moved:
        return None
    # A shortest term that has a letter at the further row has just one at each of the others.
    table, at = showing_table(form.columns, moved)
    rows = table.rows()
    if side == "ahead":
        return Table(form.columns, rows[1:]), rows[0], at - 1
    return Table(form.columns, rows[:-1]), rows[-1], at


def is_moving(form, side, value):
    """Whether any value is a table, a further row and a position, so that the result of the row there changes."""
    _need_side(form, side)
    if not isinstance(value, tuple) or len(value) != 3:
        return False
    table, row, position = value
    if not is_table_for(form.columns, table) or table.height >= MOST_ROWS:
        return False
    if not are_numbers(row, form.columns) or not is_place(table, position):
        return False
    worth = form_worths(form, table)[position]
    if side == "ahead":
        return form_worths(form, with_row(table, 0, row))[position + 1] != worth
    return form_worths(form, with_row(table, table.height, row))[position] != worth


def hangs_on(form, where, column):
    """Whether results hang on the column there."""
    _need_place(form, where, column)
    return bool(_hanging_parts(form, where, column))


def _need_place(form, where, column):
    need_form(form)
    if not isinstance(where, str) or where not in PLACES:
        raise InvalidWhere(where)
    if not is_count(column) or column >= form.columns:
        raise InvalidColumn(column)


def _hanging_parts(form, where, column):
    """The parts with a letter there that has a power of the column."""
    return [(term, factor) for term, factor in form.parts()
            if any([letter[column] > 0 for letter in _letters_at(term, where)])]


def change(form, where, column):
    """Two tables, alike but for the column there, and the position of a row with unlike results; None if none are."""
    _need_place(form, where, column)
    hanging = _hanging_parts(form, where, column)
    if not hanging:
        return None
    # With noughts in the column the hanging parts come to 0, and all others to what they came to.
    rows, at = showing_place(form.columns, hanging)
    noughts = [_with_nought(row, column) if _stands(place, where, at) else row for place, row in enumerate(rows)]
    return Table(form.columns, rows), Table(form.columns, noughts), at


def _with_nought(row, column):
    return row[:column] + [0] + row[column + 1:]


def _stands(place, where, position):
    """Whether a row stands there, seen from the row at the position."""
    if where == "ahead":
        return place < position
    if where == "behind":
        return place > position
    return place == position


def is_change(form, where, column, value):
    """Whether any value is two tables, alike but for the column there, and a row's position with unlike results."""
    _need_place(form, where, column)
    if not isinstance(value, tuple) or len(value) != 3:
        return False
    first, second, position = value
    if not is_table_for(form.columns, first) or not is_table_for(form.columns, second):
        return False
    if first.height != second.height or not is_place(first, position):
        return False
    if not _alike_but(first, second, where, column, position):
        return False
    return form_worths(form, first)[position] != form_worths(form, second)[position]


def _alike_but(first, second, where, column, position):
    for place, (one, other) in enumerate(zip(first.rows(), second.rows())):
        beside = column if _stands(place, where, position) else None
        if any([one[at] != other[at] for at in range(first.columns) if at != beside]):
            return False
    return True
