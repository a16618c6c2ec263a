"""Tables of rows in an order, and tables put together."""

from aheadsums.basics import is_count, is_count_to, is_list, need_columns, need_like_columns
from aheadsums.errors import InvalidHigh, InvalidLow, InvalidPosition, InvalidRow, InvalidRows, InvalidTable, TooMany
from aheadsums.ratios import are_numbers, as_ratio

MOST_ROWS = 40


class Table:
    """At most 40 rows of a Ratio for each of at most 3 columns; it never changes."""

    def __init__(self, columns, rows):
        need_columns(columns)
        if not are_rows(columns, rows):
            raise InvalidRows(rows)
        self._columns = columns
        self._rows = [[as_ratio(number) for number in row] for row in rows]

    @property
    def columns(self):
        """How many columns there are."""
        return self._columns

    @property
    def height(self):
        """How many rows there are."""
        return len(self._rows)

    def rows(self):
        """The list of the rows, lists of Ratios."""
        return [list(row) for row in self._rows]

    def __eq__(self, other):
        return isinstance(other, Table) and self._columns == other._columns and self._rows == other._rows


def are_rows(columns, value):
    """Whether any value is a list of rows of a table of so many columns."""
    if not is_list(value) or len(value) > MOST_ROWS:
        return False
    return all([are_numbers(row, columns) for row in value])


def is_table_for(columns, value):
    """Whether any value is a Table of so many columns."""
    return isinstance(value, Table) and value.columns == columns


def are_tables_for(columns, value):
    """Whether any value is a list of Tables of so many columns."""
    return is_list(value) and all([is_table_for(columns, table) for table in value])


def is_place(table, value):
    """Whether any value is the position of a row of the table."""
    return is_count(value) and value < table.height


def is_table_with_place(columns, value):
    """Whether any value is a tuple of a Table of so many columns and the position of a row of it."""
    if not isinstance(value, tuple) or len(value) != 2:
        return False
    return is_table_for(columns, value[0]) and is_place(value[0], value[1])


def need_table(table):
    """InvalidTable unless a Table."""
    if not isinstance(table, Table):
        raise InvalidTable(table)


def need_row(columns, row):
    """InvalidRow unless a list of as many NUMBERS as columns."""
    if not are_numbers(row, columns):
        raise InvalidRow(row)


def need_position(position, most):
    """InvalidPosition unless a COUNT that is at most this one; there is none if that is below 0."""
    if not is_count_to(position, most):
        raise InvalidPosition(position)


def need_place_for_rows(many):
    """TooMany if a table would have so many rows."""
    if many > MOST_ROWS:
        raise TooMany("rows", MOST_ROWS)


def joined(table, other):
    """The rows of the table, and behind them those of the other one."""
    need_table(table)
    need_table(other)
    need_like_columns(table, other)
    need_place_for_rows(table.height + other.height)
    return Table(table.columns, table.rows() + other.rows())


def turned(table):
    """The rows in the opposite sequence."""
    need_table(table)
    return Table(table.columns, table.rows()[::-1])


def piece(table, low, high):
    """The rows from a position on, up to the one ahead of another position."""
    need_table(table)
    if not is_count_to(low, table.height):
        raise InvalidLow(low)
    if not is_count(high) or high < low or high > table.height:
        raise InvalidHigh(high)
    return Table(table.columns, table.rows()[low:high])


def with_row(table, position, row):
    """The table in which a further row stands at the position."""
    need_table(table)
    need_position(position, table.height)
    need_row(table.columns, row)
    need_place_for_rows(table.height + 1)
    rows = table.rows()
    rows.insert(position, row)
    return Table(table.columns, rows)


def without_row(table, position):
    """The table without the row at the position."""
    need_table(table)
    need_position(position, table.height - 1)
    rows = table.rows()
    del rows[position]
    return Table(table.columns, rows)


def exchanged(table, position):
    """The table with the row at the position and the next one exchanged."""
    need_table(table)
    need_position(position, table.height - 2)
    rows = table.rows()
    rows[position], rows[position + 1] = rows[position + 1], rows[position]
    return Table(table.columns, rows)
