"""Readers, which go once through the rows with a few cells, and where two of them part."""

from aheadsums.basics import is_list, need_columns, need_like_columns
from aheadsums.errors import InvalidLast, InvalidReader, InvalidStart, InvalidSteps
from aheadsums.ratios import Ratio, are_numbers, as_ratio, is_number
from aheadsums.showing import showing_rows
from aheadsums.spans import are_noughts, dot, left_over, scaled
from aheadsums.tables import Table, is_table_with_place, need_table
from aheadsums.words import is_letter, worth_at

MOST_CELLS = 12
MOST_LETTERS_TOLD = 40


class Reader:
    """At most 12 cells, how they start, what becomes of them, and what they tell; it never changes."""

    def __init__(self, columns, start, steps, last):
        need_columns(columns)
        if not _is_start(start):
            raise InvalidStart(start)
        if not _are_steps(columns, len(start), steps):
            raise InvalidSteps(steps)
        if not _are_last(columns, len(start), last):
            raise InvalidLast(last)
        self._columns = columns
        self._start = _as_ratios(start)
        lists = {letter: [_as_ratios(row) for row in rows] for letter, rows in steps}
        numbers = {letter: _as_ratios(row) for letter, row in last}
        self._steps = [(letter, lists[letter]) for letter in sorted(lists) if _tell(lists[letter])]
        self._last = [(letter, numbers[letter]) for letter in sorted(numbers) if _tell([numbers[letter]])]

    @property
    def columns(self):
        """How many columns the tables have that it is for."""
        return self._columns

    @property
    def cells(self):
        """How many cells there are."""
        return len(self._start)

    def start(self):
        """The list of what the cells hold at first, Ratios."""
        return list(self._start)

    def steps(self):
        """The sorted list of the tuples of a letter and its lists of Ratios, without those of noughts alone."""
        return [(letter, [list(row) for row in rows]) for letter, rows in self._steps]

    def last(self):
        """The sorted list of the tuples of a letter and its list of Ratios, without those of noughts alone."""
        return [(letter, list(row)) for letter, row in self._last]

    def __eq__(self, other):
        if not isinstance(other, Reader) or self._columns != other._columns:
            return False
        return self._start == other._start and self._steps == other._steps and self._last == other._last


def _is_start(value):
    return is_list(value) and len(value) <= MOST_CELLS and all([is_number(number) for number in value])


def _are_steps(columns, cells, value):
    return _are_by_letter(columns, value) and all([_are_lists(cells, part[1]) for part in value])


def _are_lists(cells, value):
    return is_list(value) and len(value) == cells and all([are_numbers(row, cells) for row in value])


def _are_last(columns, cells, value):
    return _are_by_letter(columns, value) and all([are_numbers(part[1], cells) for part in value])


def _are_by_letter(columns, value):
    """Whether any value is a list of tuples of a letter and one more thing, no letter twice."""
    if not is_list(value) or len(value) > MOST_LETTERS_TOLD:
        return False
    for part in value:
        if not isinstance(part, tuple) or len(part) != 2 or not is_letter(columns, part[0]):
            return False
    return len(set([part[0] for part in value])) == len(value)


def _as_ratios(numbers):
    return [as_ratio(number) for number in numbers]


def _tell(rows):
    """Whether some Ratio of the rows is not 0."""
    return any([number.sign != 0 for row in rows for number in row])


def need_reader(reader):
    """InvalidReader unless a Reader."""
    if not isinstance(reader, Reader):
        raise InvalidReader(reader)


def read(reader, table):
    """The list of the results, one for each row of the table."""
    need_reader(reader)
    need_table(table)
    need_like_columns(reader, table)
    steps, last = reader.steps(), reader.last()
    cells = reader.start()
    results = []
    for row in table.rows():
        results.append(Ratio.total([worth_at(letter, row) * _result(cells, numbers) for letter, numbers in last]))
        cells = _stepped(cells, steps, row)
    return results


def _result(cells, numbers):
    return Ratio.total([cell * number for cell, number in zip(cells, numbers)])


def _stepped(cells, steps, row):
    """What the cells hold behind a row."""
    held = [Ratio(0) for _ in cells]
    for letter, lists in steps:
        worth = worth_at(letter, row)
        for cell, numbers in zip(cells, lists):
            share = worth * cell
            if share.sign != 0:
                held = [so_far + share * number for so_far, number in zip(held, numbers)]
    return held


def are_alike(reader, other):
    """Whether both readers tell the same results for all tables."""
    _need_two(reader, other)
    start, steps, last = _less(reader, other)
    return _first_told(start, _telling_columns(steps, last)) is None


def _need_two(reader, other):
    need_reader(reader)
    need_reader(other)
    need_like_columns(reader, other)


def _less(reader, other):
    """The start, steps and last numbers of what tells the reader's results less the other one's.

    Its cells are those of both; of each letter the lists are told as a scale, a Ratio, and INTEGERS.
    """
    start = scaled(reader.start() + other.start())[1]
    ours, theirs = dict(reader.steps()), dict(other.steps())
    steps = {}
    for letter in sorted(set(list(ours) + list(theirs))):
        steps[letter] = _scaled_lists(_lists_of(ours, letter, 0, reader.cells, other.cells)
                                      + _lists_of(theirs, letter, reader.cells, other.cells, 0))
    ours, theirs = dict(reader.last()), dict(other.last())
    last = {}
    for letter in sorted(set(list(ours) + list(theirs))):
        its = [-number for number in theirs.get(letter, _noughts(other.cells))]
        last[letter] = scaled(ours.get(letter, _noughts(reader.cells)) + its)
    return start, steps, last


def _noughts(many):
    return [Ratio(0) for _ in range(many)]


def _lists_of(lists, letter, ahead, cells, behind):
    """The letter's lists for so many cells, with noughts for those of another reader ahead of them, and behind."""
    rows = lists.get(letter, [_noughts(cells) for _ in range(cells)])
    return [_noughts(ahead) + row + _noughts(behind) for row in rows]


def _scaled_lists(rows):
    scale, wholes = scaled([number for row in rows for number in row])
    many = len(rows)
    return scale, [wholes[at * many:(at + 1) * many] for at in range(many)]


def _telling_columns(steps, last):
    """The columns, a number for each cell, that tell which cells tell something, whatever rows come.

    Each is a tuple of the numbers, a letter and a position: what the column at this position becomes ahead of the
    letter's step, or, where the position is None, the letter's last numbers; without what earlier columns tell.
    """
    found = []
    for letter in last:
        _put_column(found, last[letter][1], letter, None)
    at = 0
    while at < len(found):
        for letter in steps:
            _put_column(found, _led_back(steps[letter][1], found[at][0]), letter, at)
        at = at + 1
    return found


def _put_column(found, numbers, letter, position):
    left = left_over([column[0] for column in found], numbers)
    if not are_noughts(left):
        found.append((left, letter, position))


def _led_back(lists, numbers):
    """The column that tells of the cells ahead of a step what the numbers tell of those behind it."""
    return [dot(row, numbers) for row in lists]


def _first_told(cells, columns):
    """The position of the first column that tells something of the cells; None if none does."""
    return min([at for at, column in enumerate(columns) if dot(cells, column[0]) != 0], default=None)


def reader_parting(reader, other):
    """A table, and the position of a row at which both tell unlike results; None if they are alike."""
    _need_two(reader, other)
    cells, steps, last = _less(reader, other)
    columns = _telling_columns(steps, last)
    at = _first_told(cells, columns)
    if at is None:
        return None
    rows = []
    while columns[at][2] is not None:
        # Of the cells behind such a row the column at this position tells something, and it stands ahead.
        behind = columns[columns[at][2]][0]
        shares = {letter: scale * dot(cells, _led_back(lists, behind)) for letter, (scale, lists) in steps.items()}
        rows.append(_showing_row(reader.columns, shares))
        cells = _led(cells, steps, Table(reader.columns, rows).rows()[-1])
        at = _first_told(cells, columns)
    shares = {letter: scale * dot(cells, numbers) for letter, (scale, numbers) in last.items()}
    rows.append(_showing_row(reader.columns, shares))
    return Table(reader.columns, rows), len(rows) - 1


def _showing_row(columns, shares):
    """A row at which the letters, each times its share, do not come to 0 together."""
    return showing_rows(columns, [((letter,), shares[letter]) for letter in shares if shares[letter].sign != 0])[0]


def _led(cells, steps, row):
    """A multiple of what the cells hold behind a row."""
    letters = list(steps)
    scale, shares = scaled([steps[letter][0] * worth_at(letter, row) for letter in letters])
    held = [0 for _ in cells]
    for letter, share in zip(letters, shares):
        for cell, numbers in zip(cells, steps[letter][1]):
            held = [so_far + share * cell * number for so_far, number in zip(held, numbers)]
    return held


def is_reader_parting(reader, other, value):
    """Whether any value is a table, and the position of a row at which both tell unlike results."""
    _need_two(reader, other)
    if not is_table_with_place(reader.columns, value):
        return False
    table, position = value
    return read(reader, table)[position] != read(other, table)[position]
