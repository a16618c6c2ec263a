"""Claims about forms and tallies, their contraries, and papers that show which of both is true."""

from aheadsums.alikes import is_parting, parting
from aheadsums.basics import is_count_to
from aheadsums.errors import InvalidClaim
from aheadsums.fewest import cells_paper, fewest_cells, is_cells_paper, is_forward, is_read_by_some, reader_of, tells
from aheadsums.forms import Form
from aheadsums.hangs import SIDES, is_moving, moving, stays
from aheadsums.orders import exchange, is_exchange, is_order_free
from aheadsums.pieces import is_piece_paper, kept_tallies, shorter_paper
from aheadsums.readers import MOST_CELLS, Reader
from aheadsums.tallies import Tally

MOST_KEPT = 40
CLAIM_WORDS = (("alike", "unlike"), ("stays", "moves"), ("orderfree", "ordered"), ("reads", "needs"),
               ("holds", "lacks"))


def claim_words():
    """The list of the tuples of a word of claims and that of their contraries."""
    return list(CLAIM_WORDS)


def is_claim(value):
    """Whether any value is a claim."""
    if not isinstance(value, tuple) or len(value) < 2 or not isinstance(value[0], str):
        return False
    row = _row_of(value[0])
    return row is not None and _are_parts(row[0], value[1:])


def _row_of(word):
    """The tuple of the word of a claim and that of its contrary in which this word stands; None if there is none."""
    for row in CLAIM_WORDS:
        if word in row:
            return row
    return None


def _are_parts(first, parts):
    """Whether any values are the parts of a claim of the row that begins with this word."""
    if first == "orderfree":
        return len(parts) == 1 and isinstance(parts[0], Tally)
    if len(parts) != 2:
        return False
    thing, further = parts
    if first == "holds":
        return isinstance(thing, Tally) and is_count_to(further, MOST_KEPT)
    if not isinstance(thing, Form):
        return False
    if first == "alike":
        return isinstance(further, Form) and further.columns == thing.columns
    if first == "stays":
        return isinstance(further, str) and further in SIDES
    return is_forward(thing) and is_count_to(further, MOST_CELLS)


def _need_claim(claim):
    if not is_claim(claim):
        raise InvalidClaim(claim)


def is_true(claim):
    """Whether the claim is true."""
    _need_claim(claim)
    first = _row_of(claim[0])[0]
    return _is_first_true(first, claim[1:]) == (claim[0] == first)


def _is_first_true(first, parts):
    """Whether the claim with the first word of a row is true of the parts."""
    if first == "alike":
        return parts[0] == parts[1]
    if first == "stays":
        return stays(parts[0], parts[1])
    if first == "orderfree":
        return is_order_free(parts[0])
    if first == "reads":
        return is_read_by_some(parts[0], parts[1])
    return len(kept_tallies(parts[0])) <= parts[1]


def contrary(claim):
    """The claim that is true if this one is not."""
    _need_claim(claim)
    first, second = _row_of(claim[0])
    return (second if claim[0] == first else first,) + claim[1:]


def paper_of(claim):
    """A paper of the claim; None if it is not true, or if its kind has none."""
    _need_claim(claim)
    if not is_true(claim):
        return None
    word, parts = claim[0], claim[1:]
    if word == "unlike":
        return parting(parts[0], parts[1])
    if word == "moves":
        return moving(parts[0], parts[1])
    if word == "ordered":
        return exchange(parts[0])
    if word == "reads":
        return reader_of(parts[0])
    if word == "needs":
        return _needs_paper(parts[0], parts[1])
    if word == "lacks":
        return shorter_paper(parts[0], parts[1] + 1)
    return None


def _needs_paper(form, many):
    """A paper of cells; where it is for its many letters alone that no reader tells the form, reader_of refuses it."""
    return cells_paper(form) if fewest_cells(form) > many else reader_of(form)


def is_paper_of(claim, value):
    """Whether any value is a paper of the claim."""
    _need_claim(claim)
    word, parts = claim[0], claim[1:]
    if word == "unlike":
        return is_parting(parts[0], parts[1], value)
    if word == "moves":
        return is_moving(parts[0], parts[1], value)
    if word == "ordered":
        return is_exchange(parts[0], value)
    if word == "reads":
        return _is_reader_for(parts[0], parts[1], value)
    if word == "needs":
        return fewest_cells(parts[0]) > parts[1] and is_cells_paper(parts[0], value)
    if word == "lacks":
        return is_piece_paper(parts[0], value) and len(value[0]) > parts[1]
    return False


def _is_reader_for(form, many, value):
    """Whether any value is a Reader of at most so many cells that tells the form."""
    if not isinstance(value, Reader) or value.columns != form.columns or value.cells > many:
        return False
    return tells(value, form)
