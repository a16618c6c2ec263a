"""Vectors, dicts of INTEGERS by key without noughts, and bases of all sums of multiples of some of them."""

from aheadsums.ratios import Ratio
from aheadsums.spans import common_divisor, scaled


def vector_of(factors):
    """A multiple of a dict of Ratios by key, as a vector."""
    keys = list(factors)
    wholes = scaled([factors[key] for key in keys])[1]
    return {key: whole for key, whole in zip(keys, wholes) if whole != 0}


def shortened(numbers):
    """A dict of INTEGERS by key without its noughts, divided by their common divisor."""
    common = common_divisor(list(numbers.values()))
    return {key: number // common for key, number in numbers.items() if number != 0}


def less(vector, times, other, many):
    """The vector so many times less the other one so many times, divided by the common divisor."""
    left = {key: times * number for key, number in vector.items()}
    for key, number in other.items():
        left[key] = left.get(key, 0) - many * number
    return shortened(left)


def less_at(vector, row, key):
    """A multiple of the vector less one of the row, with nothing left at a key at which both have something."""
    common = common_divisor([vector[key], row[key]])
    return less(vector, row[key] // common, row, vector[key] // common)


def rest_of(rows, vector):
    """What is left of a multiple of the vector without multiples of the rows, which are told by their least keys."""
    left = vector
    while left and min(left) in rows:
        head = min(left)
        left = less_at(left, rows[head], head)
    return left


def basis_of(vectors):
    """Independent vectors with the same sums of multiples, by their least keys, all of which are unlike."""
    rows = {}
    # With short vectors ahead hardly any number or vector grows.
    for vector in sorted(vectors, key=len):
        left = rest_of(rows, vector)
        if left:
            rows[min(left)] = left
    return rows


def reduced_basis(vectors):
    """The basis in which each vector has 1 at its least key, its head, and nothing at the heads of the others.

    It is told as a list of tuples of a head and a dict of Ratios by key, the heads rising.
    """
    rows = basis_of(vectors)
    done = {}
    for head in sorted(rows, reverse=True):
        done[head] = _without(rows[head], head, done)
    return [(head, _with_one_at(head, done[head])) for head in sorted(done)]


def _without(vector, head, done):
    """The vector with nothing at the heads of those that are done, which have nothing at one another's."""
    left = vector
    for key in sorted(vector):
        if key != head and key in done:
            left = less_at(left, done[key], key)
    return left


def _with_one_at(head, vector):
    return {key: Ratio(number, vector[head]) for key, number in vector.items()}
