"""What is to be kept of a piece of rows that may stand anywhere: kept tallies, how they are joined, and papers."""

from aheadsums.bases import basis_of, reduced_basis, shortened, vector_of
from aheadsums.basics import is_list, need_like_columns
from aheadsums.errors import InvalidNumbers
from aheadsums.ratios import Ratio, are_numbers
from aheadsums.squares import is_regular, telling_pairs
from aheadsums.tables import Table, are_tables_for, need_table
from aheadsums.tallies import Tally, need_few_parts, need_tally
from aheadsums.words import whole_sums


def kept_tallies(tally):
    """The list of the kept tallies, by their heads."""
    need_tally(tally)
    kept = _kept(tally)
    for head, factors in kept:
        need_few_parts(factors)
    return [Tally(tally.columns, list(factors.items())) for head, factors in kept]


def _kept(tally):
    """The heads of the kept tallies, rising, each with the tally's factors by word."""
    return reduced_basis(_middle_parts(tally))


def _middle_parts(tally):
    """The list of multiples of the middle parts that are not nothing, as vectors by word."""
    found = {}
    for ahead, word, behind, factor in _cut_twice(tally):
        part = found.setdefault((ahead, behind), {})
        part[word] = factor
    return [vector_of(found[sides]) for sides in found]


def _cut_twice(tally):
    """The list of all tuples of three words that make a word of the tally, one behind the other, and its factor."""
    return [(word[:low], word[low:high], word[high:], factor) for word, factor in tally.parts()
            for low in range(len(word) + 1) for high in range(low, len(word) + 1)]


def joining(tally):
    """For each kept tally, and any two of them, the factor that the heads of these, put together, have in it."""
    need_tally(tally)
    kept = _kept(tally)
    places = {head: at for at, (head, factors) in enumerate(kept)}
    return [_joining_of(factors, places) for head, factors in kept]


def _joining_of(factors, places):
    """The factors of any two heads put together, by the places of both: few cuts of words are cuts into heads."""
    nothing = Ratio(0)
    lists = [[nothing] * len(places) for _ in places]
    for word, factor in factors.items():
        for at in range(len(word) + 1):
            if word[:at] in places and word[at:] in places:
                row = lists[places[word[:at]]]
                row[places[word[at:]]] = factor
    return lists


def whole_numbers(tally):
    """The list of the factors that the heads of the kept tallies have in the tally."""
    need_tally(tally)
    factors = {word: factor for word, factor in tally.parts()}
    return [factors.get(head, Ratio(0)) for head, others in _kept(tally)]


def kept_numbers(tally, table):
    """The list of what the kept tallies come to on the table."""
    need_tally(tally)
    need_table(table)
    need_like_columns(tally, table)
    kept = _kept(tally)
    sums = whole_sums([word for head, factors in kept for word in factors], table.rows())
    return [Ratio.total([factors[word] * sums[word] for word in factors]) for head, factors in kept]


def joined_numbers(tally, numbers, others):
    """The kept numbers of two pieces put together, out of those of the first one and of the second one."""
    need_tally(tally)
    kept = _kept(tally)
    _need_numbers(numbers, len(kept))
    _need_numbers(others, len(kept))
    first = {head: number for (head, factors), number in zip(kept, numbers)}
    second = {head: number for (head, factors), number in zip(kept, others)}
    return [_joined(factors, first, second) for head, factors in kept]


def _need_numbers(numbers, many):
    if not are_numbers(numbers, many):
        raise InvalidNumbers(numbers)


def _joined(factors, first, second):
    """What a kept tally comes to on two pieces, out of the numbers of both by head."""
    worth = Ratio(0)
    for word, factor in factors.items():
        for at in range(len(word) + 1):
            if word[:at] in first and word[at:] in second:
                worth = worth + factor * first[word[:at]] * second[word[at:]]
    return worth


def piece_paper(tally):
    """A piece paper with as many pieces as there are kept tallies."""
    need_tally(tally)
    basis = basis_of(_middle_parts(tally))
    sides = _telling_sides(tally, len(basis))
    return _telling_pieces(tally.columns, list(basis.values())), sides


def shorter_paper(tally, many):
    """A piece paper with so many pieces, which are at most as many as there are kept tallies."""
    sides = _telling_sides(tally, many)
    # Between the rows of these sides the tally is as many independent tallies of a piece.
    wholes = _wholes(tally)
    return _telling_pieces(tally.columns, [_middle(wholes, ahead, behind) for ahead, behind in sides]), sides


def _telling_sides(tally, many):
    """So many tuples of rows ahead and rows behind that tell pieces apart, of each of which others do not tell all."""
    taken = {}
    for ahead, word, behind, factor in _cut_twice(tally):
        shares = taken.setdefault(word, {})
        shares[(ahead, behind)] = factor
    # What stands beside a word, as functions of the rows ahead and behind: as many as there are kept tallies.
    basis = basis_of([vector_of(taken[word]) for word in taken])
    return [(Table(tally.columns, ahead), Table(tally.columns, behind))
            for ahead, behind in telling_pairs(tally.columns, list(basis.values())[:many])]


def _telling_pieces(columns, vectors):
    """As many tables as vectors by word, at which the tallies with these factors have a determinant that is not 0."""
    functions = [{(word, ()): number for word, number in vector.items()} for vector in vectors]
    return [Table(columns, rows) for rows, none in telling_pairs(columns, functions)]


def _wholes(tally):
    return vector_of({word: factor for word, factor in tally.parts()})


def _middle(wholes, ahead, behind):
    """A multiple, as a vector by word, of what a tally is of a piece between two tables, out of the tally's vector."""
    firsts = vector_of(whole_sums(list(wholes), ahead.rows()))
    # Seen from the last row, the ends of words are begins.
    lasts = vector_of(whole_sums([word[::-1] for word in wholes], behind.rows()[::-1]))
    found = {}
    for word, number in wholes.items():
        for low in range(len(word) + 1):
            share = number * firsts.get(word[:low], 0)
            for high in range(low, len(word) + 1):
                middle = word[low:high]
                found[middle] = found.get(middle, 0) + share * lasts.get(word[high:][::-1], 0)
    return shortened(found)


def is_piece_paper(tally, value):
    """Whether any value is a piece paper of the tally, of however many pieces."""
    need_tally(tally)
    if not isinstance(value, tuple) or len(value) != 2:
        return False
    pieces, sides = value
    if not are_tables_for(tally.columns, pieces) or not is_list(sides) or len(pieces) != len(sides):
        return False
    if not all([isinstance(pair, tuple) and len(pair) == 2 and are_tables_for(tally.columns, pair) for pair in sides]):
        return False
    return is_regular(_square(tally, pieces, sides))


def _square(tally, pieces, sides):
    """Multiples of the tally's worths on rows ahead, a piece and rows behind, for each of the sides and each piece."""
    wholes = _wholes(tally)
    ends = [word[at:] for word in wholes for at in range(len(word) + 1)]
    sums = [vector_of(whole_sums(ends, one.rows())) for one in pieces]
    square = []
    for ahead, behind in sides:
        middle = _middle(wholes, ahead, behind)
        square.append([sum([number * its.get(word, 0) for word, number in middle.items()]) for its in sums])
    return square
