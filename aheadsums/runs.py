"""Runs of like rows, however many, and what a further row changes."""

from math import comb

from aheadsums.basics import is_count_to, is_list, need_columns, need_like_columns
from aheadsums.errors import InvalidLots, InvalidRuns
from aheadsums.forms import form_worths, need_form, need_two_forms
from aheadsums.ratios import Ratio, are_numbers, as_ratio
from aheadsums.tables import Table, need_place_for_rows, need_position, need_row, need_table, with_row
from aheadsums.tallies import need_tally
from aheadsums.words import worth_at

MOST_LOTS = 12
MOST_LIKE_ROWS = 1000000000000000000000000000000


class Runs:
    """At most 12 lots of like rows for some columns, one behind the other; it never changes."""

    def __init__(self, columns, lots):
        need_columns(columns)
        if not _are_lots(columns, lots):
            raise InvalidLots(lots)
        self._columns = columns
        self._lots = [([as_ratio(number) for number in row], many) for row, many in lots]

    @property
    def columns(self):
        """How many columns the rows have."""
        return self._columns

    def lots(self):
        """The list of the tuples of a row, a list of Ratios, and how often it stands."""
        return [(list(row), many) for row, many in self._lots]

    def many(self):
        """How many rows there are."""
        return sum([many for row, many in self._lots])

    def __eq__(self, other):
        return isinstance(other, Runs) and self._columns == other._columns and self._lots == other._lots


def _are_lots(columns, value):
    return is_list(value) and len(value) <= MOST_LOTS and all([_is_lot(columns, lot) for lot in value])


def _is_lot(columns, value):
    if not isinstance(value, tuple) or len(value) != 2:
        return False
    return are_numbers(value[0], columns) and is_count_to(value[1], MOST_LIKE_ROWS)


def need_runs(runs):
    """InvalidRuns unless a Runs."""
    if not isinstance(runs, Runs):
        raise InvalidRuns(runs)


def run_worth(tally, runs):
    """What the tally comes to on these rows."""
    need_tally(tally)
    need_runs(runs)
    need_like_columns(tally, runs)
    sums = _run_sums([word for word, factor in tally.parts()], runs.lots())
    return Ratio.total([factor * sums[word] for word, factor in tally.parts()])


def _run_sums(words, lots):
    """A dict of the sums over lots of like rows, of the words and of all that they begin with."""
    sums = {(): Ratio(1)}
    for word in words:
        for at in range(1, len(word) + 1):
            sums[word[:at]] = Ratio(0)
    for row, many in lots:
        sums = _sums_behind(sums, row, many)
    return sums


def _sums_behind(sums, row, many):
    """The sums with so many like rows behind those over which they go."""
    known = {letter: worth_at(letter, row) for letter in sorted(set([word[-1] for word in sums if word]))}
    longer = {}
    for word in sums:
        whole = sums[word]
        product = Ratio(1)
        for taken in range(1, min(len(word), many) + 1):
            at = len(word) - taken
            product = product * known[word[at]]
            if product.sign == 0:
                break
            whole = whole + sums[word[:at]] * product * comb(many, taken)
        longer[word] = whole
    return longer


def run_result(form, runs, position):
    """The form's result at the row with this position."""
    need_form(form)
    need_runs(runs)
    need_position(position, runs.many() - 1)
    need_like_columns(form, runs)
    ahead, row, behind = _parted(runs.lots(), position)
    firsts = _run_sums([left for (left, own, right), factor in form.parts()], ahead)
    # Seen from the last row, a sum over the rows behind is one over rows ahead.
    lasts = _run_sums([right[::-1] for (left, own, right), factor in form.parts()], behind[::-1])
    return Ratio.total([factor * firsts[left] * worth_at(own, row) * lasts[right[::-1]]
                        for (left, own, right), factor in form.parts()])


def _parted(lots, position):
    """The lots of the rows ahead of the position, the row there, and the lots of the rows behind it."""
    ahead = []
    left = position
    for at, (row, many) in enumerate(lots):
        if left < many:
            return ahead + [(row, left)], row, [(row, many - left - 1)] + lots[at + 1:]
        ahead.append((row, many))
        left = left - many
    return ahead, [], []


def laid_out(runs):
    """The table of these rows."""
    need_runs(runs)
    need_place_for_rows(runs.many())
    return Table(runs.columns, [row for row, many in runs.lots() for _ in range(many)])


def first_unlike(form, other, row):
    """The least number of rows like this one on which some result of both forms is unlike; None if there is none."""
    need_form(form)
    need_form(other)
    need_row(form.columns, row)
    need_two_forms(form, other)
    numbers = [as_ratio(number) for number in row]
    shares = {}
    for parts, sign in ((form.parts(), 1), (other.parts(), -1)):
        for (left, own, right), factor in parts:
            lengths = (len(left), len(right))
            worth = factor * sign
            for letter in left + (own,) + right:
                worth = worth * worth_at(letter, numbers)
            shares[lengths] = shares.get(lengths, Ratio(0)) + worth
    return min([sum(lengths) + 1 for lengths in shares if shares[lengths].sign != 0], default=None)


def put_changes(form, table, position, row):
    """For each row of the table, by how much its result is greater when the further row stands at the position."""
    need_form(form)
    need_table(table)
    need_position(position, table.height)
    need_row(table.columns, row)
    need_like_columns(form, table)
    then = form_worths(form, with_row(table, position, row))
    del then[position]
    return [worth - ahead for worth, ahead in zip(then, form_worths(form, table))]
