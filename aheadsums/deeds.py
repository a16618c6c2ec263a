"""What becomes of a book by a deed."""

from aheadsums.books import led_to_things, with_claim, with_thing, without_claim, without_thing
from aheadsums.errors import InvalidColumn, InvalidPosition
from aheadsums.forms import Form, ahead_of, behind_of, form_plus, form_product, form_times, form_total
from aheadsums.making import form_of
from aheadsums.orders import mean_of_orders
from aheadsums.programs import Program, mirrored
from aheadsums.tables import Table, exchanged, is_place, joined, piece, turned, with_row, without_row
from aheadsums.tallies import Tally, tally_plus, tally_product


def book_after(book, word, kinds, values):
    """The book behind the deed: the errors of what makes it."""
    first = values[0]
    if word == "claim":
        return with_claim(book, first, (values[1], kinds[2:], values[2:]))
    if word == "forget":
        return without_claim(book, first)
    if word == "drop":
        return without_thing(book, first)
    parts = led_to_things(book.things, kinds, values)
    return with_thing(book, first, _made(word, parts[1:] if kinds[0] == "new" else parts))


def _made(word, parts):
    """What is kept by the deed, out of what stands behind the new name, or behind the deed's word."""
    if len(parts) == 1:
        return _made_of_one(word, parts[0])
    if len(parts) > 2:
        return _made_of_table(word, parts[0], parts[1:])
    if word in ("table", "program", "tally", "form"):
        return _made_anew(word, parts[0], parts[1])
    return _made_of_two(word, parts[0], parts[1])


def _made_of_one(word, thing):
    if word == "make":
        return form_of(thing)
    if word == "total":
        return form_total(thing)
    if word == "mean":
        return mean_of_orders(thing)
    if word == "turn":
        return turned(thing)
    if word == "mirror":
        return mirrored(thing)
    if word == "ahead":
        return ahead_of(thing)
    if word == "behind":
        return behind_of(thing)
    return thing


def _made_anew(word, columns, parts):
    if word == "table":
        return Table(columns, parts)
    if word == "program":
        return Program(columns, parts)
    if word == "tally":
        return Tally(columns, parts)
    return Form(columns, parts)


def _made_of_two(word, thing, further):
    if word == "join":
        return joined(thing, further)
    if word == "plus":
        return form_plus(thing, further)
    if word == "by":
        return form_product(thing, further)
    if word == "plustal":
        return tally_plus(thing, further)
    if word == "bytal":
        return tally_product(thing, further)
    if word == "strike":
        return without_row(thing, further)
    if word == "swap":
        return exchanged(thing, further)
    if word == "add":
        return Program(thing.columns, thing.steps() + further)
    return form_times(thing, further)


def _made_of_table(word, table, parts):
    if word == "piece":
        return piece(table, parts[0], parts[1])
    if word == "put":
        return with_row(table, parts[0], parts[1])
    return _with_number(table, parts[0], parts[1], parts[2])


def _with_number(table, position, column, number):
    """The table whose row at the position has this number in the column."""
    if not is_place(table, position):
        raise InvalidPosition(position)
    if column >= table.columns:
        raise InvalidColumn(column)
    rows = table.rows()
    rows[position][column] = number
    return Table(table.columns, rows)
