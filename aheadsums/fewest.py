"""The fewest cells of readers: of those that tell a form, and of those that are alike to another one."""

from aheadsums.bases import basis_of, reduced_basis, rest_of, shortened, vector_of
from aheadsums.basics import need_like_columns
from aheadsums.errors import NotForward, TooMany
from aheadsums.forms import bare_letter, need_form
from aheadsums.ratios import Ratio
from aheadsums.readers import MOST_CELLS, MOST_LETTERS_TOLD, Reader, are_alike, need_reader
from aheadsums.squares import is_regular, telling_pairs
from aheadsums.tables import Table, are_tables_for
from aheadsums.words import whole_sums, worth_at


def reader_of(form):
    """A reader that tells the form, with the fewest cells."""
    _need_forward(form)
    basis = _basis(form)
    _need_few_cells(basis)
    if not _has_few_letters(form):
        raise TooMany("steps", MOST_LETTERS_TOLD)
    return _reader(form, basis)


def _need_forward(form):
    need_form(form)
    if not is_forward(form):
        raise NotForward()


def is_forward(form):
    """Whether no term of the form has a right word."""
    return all([right == () for (left, own, right), factor in form.parts()])


def _need_few_cells(basis):
    if len(basis) > MOST_CELLS:
        raise TooMany("cells", MOST_CELLS)


def _has_few_letters(form):
    return len(_left_letters(form)) <= MOST_LETTERS_TOLD and len(_own_letters(form)) <= MOST_LETTERS_TOLD


def _left_letters(form):
    """The sorted letters of the left words, and the bare one."""
    letters = [letter for (left, own, right), factor in form.parts() for letter in left]
    return sorted(set(letters + [bare_letter(form.columns)]))


def _own_letters(form):
    return sorted(set([own for (left, own, right), factor in form.parts()]))


def _factors(form):
    """A dict of the factors of a form without right words, by left word and own letter."""
    return {(left, own): factor for (left, own, right), factor in form.parts()}


def _quotients(form):
    """The list of the form's quotients by all words with which its left words begin, as vectors."""
    found = {}
    for (left, own), factor in _factors(form).items():
        for at in range(len(left) + 1):
            quotient = found.setdefault(left[:at], {})
            quotient[(left[at:], own)] = factor
    return [vector_of(found[word]) for word in found]


def _basis(form):
    """A basis of the form's quotients, each with 1 at its head, a word and an own letter, and 0 at the other heads."""
    return reduced_basis(_quotients(form))


def _reader(form, basis):
    """The reader whose cells hold the numbers of times that what is left to tell has each quotient of the basis."""
    factors = _factors(form)
    bare = bare_letter(form.columns)
    # As each quotient has 0 at the other heads, what stands at the heads is how often each of them is taken.
    start = [factors.get(head, Ratio(0)) for head, quotient in basis]
    steps = [(letter, _lists(basis, letter, 1 if letter == bare else 0)) for letter in _left_letters(form)]
    last = [(own, [quotient.get(((), own), Ratio(0)) for head, quotient in basis]) for own in _own_letters(form)]
    return Reader(form.columns, start, steps, last)


def _lists(basis, letter, kept):
    """How often the letter's quotient of each quotient has each of them, with so much of itself that is kept."""
    lists = []
    for at, (head, quotient) in enumerate(basis):
        row = [quotient.get(((letter,) + word, own), Ratio(0)) for (word, own), other in basis]
        row[at] = row[at] + kept
        lists.append(row)
    return lists


def fewest_cells(form):
    """The fewest cells of a reader that tells the form."""
    _need_forward(form)
    return len(basis_of(_quotients(form)))


def tells(reader, form):
    """Whether the reader's results are the form's on all tables."""
    need_reader(reader)
    need_form(form)
    need_like_columns(reader, form)
    if not is_forward(form) or not _has_few_letters(form) or fewest_cells(form) > reader.cells:
        return False
    return are_alike(reader, _reader(form, _basis(form)))


def is_read_by_some(form, many):
    """Whether some reader of at most so many cells, which has at most 40 letters, tells a form without right words."""
    return fewest_cells(form) <= many and _has_few_letters(form)


def lessened(reader):
    """A reader alike to this one, with the fewest cells that such a one can have."""
    need_reader(reader)
    lasts = [numbers for letter, numbers in reader.last()]
    # First what no rows lead to is left out, then what tells nothing: that is the same, seen from the other end.
    starts, steps, lasts = _reached([reader.start()], reader.steps(), lasts)
    lasts, steps, starts = _reached(lasts, _steps_turned(steps), starts)
    last = [(letter, numbers) for (letter, others), numbers in zip(reader.last(), lasts)]
    return Reader(reader.columns, starts[0], _steps_turned(steps), last)


def _steps_turned(steps):
    """The steps with the number j of the list i as the number i of the list j."""
    return [(letter, [[row[at] for row in lists] for at in range(len(lists))]) for letter, lists in steps]


def _reached(starts, steps, lasts):
    """Starts, steps and last numbers for cells that hold how often each of a basis of what is reached is taken."""
    basis = reduced_basis(_all_reached(starts, steps))
    # As each of the basis has 0 at the other heads, what stands at the heads is how often each of them is taken.
    heads = [head for head, vector in basis]
    fewer = [(letter, [[_led(vector, lists, head) for head in heads] for other, vector in basis])
             for letter, lists in steps]
    told = [[Ratio.total([vector[at] * numbers[at] for at in vector]) for head, vector in basis] for numbers in lasts]
    return [[start[head] for head in heads] for start in starts], fewer, told


def _all_reached(starts, steps):
    """Vectors by cell, of which all that the cells can hold behind some rows are sums of multiples."""
    rows = {}
    reached = [vector_of(dict(enumerate(start))) for start in starts]
    at = 0
    # When there are as many rows as cells, whatever is reached is a sum of multiples of them.
    while at < len(reached) and len(rows) < len(starts[0]):
        left = rest_of(rows, reached[at])
        if left:
            rows[min(left)] = left
            for letter, lists in steps:
                reached.append(vector_of({cell: _led(left, lists, cell) for cell in range(len(lists))}))
        at = at + 1
    return list(rows.values())


def _led(vector, lists, at):
    """What a step's lists make of the cells at this one."""
    return Ratio.total([lists[cell][at] * vector[cell] for cell in vector])


def cells_paper(form):
    """As many tables, and further tables, as the fewest cells, with a determinant that bars fewer."""
    _need_forward(form)
    basis = _basis(form)
    _need_few_cells(basis)
    columns = form.columns
    ahead = telling_pairs(columns, [_taken(form, head) for head, quotient in basis])
    behind = telling_pairs(columns, [_at_last_row(quotient) for head, quotient in basis])
    return ([Table(columns, rows) for rows, none in ahead],
            [Table(columns, rows + last) for rows, last in behind])


def _taken(form, head):
    """How often what is left to tell behind some rows has a quotient with this head, as a function of these rows."""
    word, own = head
    found = {}
    for (left, its_own), factor in _factors(form).items():
        at = len(left) - len(word)
        if its_own == own and at >= 0 and left[at:] == word:
            found[(left[:at], ())] = factor
    return vector_of(found)


def _at_last_row(quotient):
    """What the quotient tells at the last row, as a function of the rows ahead of this one and of it."""
    return {(word, (own,)): number for (word, own), number in vector_of(quotient).items()}


def is_cells_paper(form, value):
    """Whether any value is a tuple of two lists of tables, as many each as the fewest cells, that bars fewer."""
    _need_forward(form)
    if not isinstance(value, tuple) or len(value) != 2:
        return False
    ahead, behind = value
    if not are_tables_for(form.columns, ahead) or not are_tables_for(form.columns, behind):
        return False
    if len(ahead) != len(behind) or any([table.height == 0 for table in behind]):
        return False
    return len(ahead) == fewest_cells(form) and is_regular(_square(form, ahead, behind))


def _square(form, ahead, behind):
    """Multiples of the results at the last row of each of the one list of tables ahead of each of the other one."""
    wholes = vector_of(_factors(form))
    lasts = [_worths_at_last(wholes, table.rows()) for table in behind]
    square = []
    for table in ahead:
        rest = _rest(wholes, vector_of(whole_sums([left for left, own in wholes], table.rows())))
        square.append([sum([number * worths.get(key, 0) for key, number in rest.items()]) for worths in lasts])
    return square


def _worths_at_last(wholes, rows):
    """Multiples of what each of the keys that can be left of the form comes to at the last row."""
    ends = [(left[at:], own) for left, own in wholes for at in range(len(left) + 1)]
    sums = whole_sums([end for end, own in ends], rows[:-1])
    at_row = {own: worth_at(own, rows[-1]) for end, own in ends}
    return vector_of({(end, own): sums[end] * at_row[own] for end, own in ends})


def _rest(wholes, sums):
    """A multiple of what is left of the form behind some rows, out of the sums of its left words' begins."""
    rest = {}
    for (left, own), number in wholes.items():
        for at in range(len(left) + 1):
            key = (left[at:], own)
            rest[key] = rest.get(key, 0) + number * sums.get(left[:at], 0)
    return shortened(rest)
