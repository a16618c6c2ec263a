"""Fractions in lowest terms, and what counts as a NUMBER."""

from math import gcd

from aheadsums.basics import is_integer, is_list
from aheadsums.errors import DividedByZero, InvalidNumber


class Ratio:
    """A fraction in lowest terms, its bottom at least 1; it never changes."""

    def __init__(self, top, bottom=1):
        if not is_integer(top):
            raise InvalidNumber(top)
        if not is_integer(bottom) or bottom == 0:
            raise InvalidNumber(bottom)
        common = gcd(top, bottom)
        if bottom < 0:
            common = -common
        self._top = top // common
        self._bottom = bottom // common

    @property
    def top(self):
        """The INTEGER above the stroke."""
        return self._top

    @property
    def bottom(self):
        """The INTEGER below the stroke, at least 1."""
        return self._bottom

    @property
    def sign(self):
        """-1, 0 or 1."""
        if self._top < 0:
            return -1
        if self._top > 0:
            return 1
        return 0

    @property
    def is_whole(self):
        """Whether the bottom is 1."""
        return self._bottom == 1

    def __add__(self, other):
        top, bottom = top_and_bottom(other)
        return Ratio(self._top * bottom + top * self._bottom, self._bottom * bottom)

    def __radd__(self, other):
        return self + other

    def __sub__(self, other):
        top, bottom = top_and_bottom(other)
        return Ratio(self._top * bottom - top * self._bottom, self._bottom * bottom)

    def __rsub__(self, other):
        return -self + other

    def __mul__(self, other):
        top, bottom = top_and_bottom(other)
        return Ratio(self._top * top, self._bottom * bottom)

    def __rmul__(self, other):
        return self * other

    def __neg__(self):
        return Ratio(-self._top, self._bottom)

    def over(self, other):
        """This divided by a NUMBER: InvalidNumber, DividedByZero."""
        top, bottom = top_and_bottom(other)
        if top == 0:
            raise DividedByZero()
        return Ratio(self._top * bottom, self._bottom * top)

    def size(self):
        """This without its sign."""
        return Ratio(abs(self._top), self._bottom)

    def is_below(self, other):
        """Whether this is less than a NUMBER: InvalidNumber."""
        top, bottom = top_and_bottom(other)
        return self._top * bottom < top * self._bottom

    def is_at_most(self, other):
        """Whether this is not greater than a NUMBER: InvalidNumber."""
        top, bottom = top_and_bottom(other)
        return self._top * bottom <= top * self._bottom

    @classmethod
    def total(cls, numbers):
        """The sum of a list of NUMBERS: InvalidNumber with the list, or with the first that is none."""
        if not is_list(numbers):
            raise InvalidNumber(numbers)
        answer = cls(0)
        for number in numbers:
            answer = answer + number
        return answer

    def __eq__(self, other):
        return isinstance(other, Ratio) and self._top == other._top and self._bottom == other._bottom

    def __str__(self):
        if self._bottom == 1:
            return f"{self._top}"
        return f"{self._top}/{self._bottom}"

    def __repr__(self):
        return f"Ratio({self._top}, {self._bottom})"


def is_number(value):
    """Whether any value is a NUMBER: an INTEGER or a Ratio."""
    return is_integer(value) or isinstance(value, Ratio)


def need_number(number):
    """InvalidNumber unless a NUMBER."""
    if not is_number(number):
        raise InvalidNumber(number)


def top_and_bottom(number):
    """What stands above and below the stroke of a NUMBER: InvalidNumber."""
    need_number(number)
    if isinstance(number, Ratio):
        return number.top, number.bottom
    return number, 1


def as_ratio(number):
    """The Ratio of a NUMBER."""
    if isinstance(number, Ratio):
        return number
    return Ratio(number)


def are_numbers(value, many):
    """Whether any value is a list of so many NUMBERS."""
    return is_list(value) and len(value) == many and all([is_number(number) for number in value])
