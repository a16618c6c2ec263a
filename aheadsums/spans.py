"""Lists of INTEGERS, and which of them are sums of multiples of others."""

from math import gcd, lcm

from aheadsums.ratios import Ratio


def scaled(numbers):
    """A Ratio above 0, and INTEGERS, so that this Ratio times these are the numbers of a list of Ratios."""
    below = 1
    for number in numbers:
        below = lcm(below, number.bottom)
    wholes = [number.top * (below // number.bottom) for number in numbers]
    above = max(common_divisor(wholes), 1)
    return Ratio(above, below), [whole // above for whole in wholes]


def common_divisor(wholes):
    """The greatest INTEGER that divides all of them, 0 if all are 0."""
    common = 0
    for whole in wholes:
        common = gcd(common, whole)
    return common


def dot(first, second):
    """The sum of the products of two lists, number by number."""
    return sum([one * other for one, other in zip(first, second)])


def are_noughts(numbers):
    """Whether all INTEGERS of the list are 0."""
    return all([number == 0 for number in numbers])


def left_over(rows, numbers):
    """What is left of a multiple of the numbers without multiples of the rows: noughts if it is a sum of such.

    Each of the rows is what was left over of the rows ahead of it, and none has noughts alone.
    """
    left = numbers
    for row in rows:
        at = _first_place(row)
        if left[at] != 0:
            left = [row[at] * number - left[at] * other for number, other in zip(left, row)]
            # Without common divisors the numbers stay as short as they can.
            common = max(common_divisor(left), 1)
            left = [number // common for number in left]
    return left


def _first_place(row):
    """Where the first number stands that is not 0."""
    at = 0
    while row[at] == 0:
        at = at + 1
    return at
