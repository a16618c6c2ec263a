"""What does not hang on the order of the rows, and two neighbours that show it of what does."""

from aheadsums.basics import is_count
from aheadsums.errors import TooMany
from aheadsums.forms import form_worths, need_form
from aheadsums.lots import how_many_words, lot_of, words_of
from aheadsums.ratios import Ratio
from aheadsums.showing import showing_rows
from aheadsums.tables import Table, exchanged, is_place, is_table_for
from aheadsums.tallies import MOST_PARTS, Tally, need_tally, tally_worth, told_parts


def is_order_free(tally):
    """Whether the tally comes to the same for any two tables that have the same rows in some order."""
    need_tally(tally)
    return _least_barred(tally) is None


def _least_barred(tally):
    """The least number of letters of a lot that bars the tally; None if none does."""
    factors = _by_lot(tally)
    return min([len(lot) for lot in factors if not _are_like(factors[lot], how_many_words(lot))], default=None)


def _by_lot(tally):
    """A dict of the factors of the words that have a lot, by the lot."""
    found = {}
    for word, factor in tally.parts():
        found.setdefault(lot_of(word), []).append(factor)
    return found


def _are_like(factors, many):
    """Whether the factors are so many, and all the same."""
    return len(factors) == many and all([factor == factors[0] for factor in factors])


def exchange(tally):
    """A least table, and where two neighbours are whose exchange changes the tally; None if it is order-free."""
    need_tally(tally)
    many = _least_barred(tally)
    if many is None:
        return None
    parts = [(word, factor) for word, factor in tally.parts() if len(word) == many]
    at = 0
    changes = _changes(parts, parts, at)
    while not changes:
        at = at + 1
        changes = _changes(parts, parts, at)
    return Table(tally.columns, showing_rows(tally.columns, changes)), at


def _changes(parts, others, at):
    """By how much parts come to more, over as many rows as letters, than other ones with two rows exchanged."""
    return told_parts(parts + [(_with_exchange(word, at), -factor) for word, factor in others])


def _with_exchange(word, at):
    return word[:at] + (word[at + 1], word[at]) + word[at + 2:]


def is_exchange(tally, value):
    """Whether any value is a table, and where two neighbours are whose exchange changes the tally."""
    need_tally(tally)
    if not isinstance(value, tuple) or len(value) != 2:
        return False
    table, at = value
    if not is_table_for(tally.columns, table) or not _has_neighbours(table, at):
        return False
    return tally_worth(tally, table) != tally_worth(tally, exchanged(table, at))


def _has_neighbours(table, at):
    """Whether any value is the position of a row of the table behind which there is another one."""
    return is_count(at) and at < table.height - 1


def mean_of_orders(tally):
    """The tally that comes to the mean of what this one comes to on the rows in all their orders."""
    need_tally(tally)
    factors = _by_lot(tally)
    sums = {lot: Ratio.total(factors[lot]) for lot in factors}
    lots = [lot for lot in sums if sums[lot].sign != 0]
    if sum([how_many_words(lot) for lot in lots]) > MOST_PARTS:
        raise TooMany("terms", MOST_PARTS)
    return Tally(tally.columns, [(word, sums[lot].over(how_many_words(lot))) for lot in lots for word in words_of(lot)])


def is_free_at(form):
    """Whether the result of a row never changes when the other rows are put in another order."""
    need_form(form)
    return _least_barred_at(form) is None


def _least_barred_at(form):
    """The least number of letters, the own one counted, of what bars the form; None if nothing does."""
    found = {}
    for (left, own, right), factor in form.parts():
        found.setdefault((own, lot_of(left + right)), []).append(factor)
    barred = []
    for (own, lot), factors in found.items():
        # The own letter may stand ahead of any of the others, or behind them all.
        if not _are_like(factors, how_many_words(lot) * (len(lot) + 1)):
            barred.append(len(lot) + 1)
    return min(barred, default=None)


def exchange_at(form):
    """A least table, a row's position, and where neighbours are whose exchange changes its result; None if free."""
    need_form(form)
    many = _least_barred_at(form)
    if many is None:
        return None
    for position in range(many):
        parts = _words_at(form, many, position)
        for at in range(many - 1):
            changes = _changes(parts, _words_at(form, many, _place_then(position, at)), at)
            if changes:
                return Table(form.columns, showing_rows(form.columns, changes)), position, at
    return None


def _words_at(form, many, position):
    """The terms of so many letters that have so many left ones, each as one word, with their factors."""
    return [(left + (own,) + right, factor) for (left, own, right), factor in form.parts()
            if len(left) == position and len(left) + 1 + len(right) == many]


def _place_then(position, at):
    """Where the row at the position stands when the row at another one and the next one are exchanged."""
    if position == at:
        return at + 1
    if position == at + 1:
        return at
    return position


def is_exchange_at(form, value):
    """Whether any value is a table, a row's position, and where neighbours are whose exchange changes its result."""
    need_form(form)
    if not isinstance(value, tuple) or len(value) != 3:
        return False
    table, position, at = value
    if not is_table_for(form.columns, table) or not is_place(table, position) or not _has_neighbours(table, at):
        return False
    then = form_worths(form, exchanged(table, at))[_place_then(position, at)]
    return form_worths(form, table)[position] != then
