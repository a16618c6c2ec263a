"""What the test files share: a test case that knows errors, odd values, and sums worked out by themselves."""

import copy
import unittest
from decimal import Decimal
from fractions import Fraction
from itertools import combinations

from aheadsums.errors import TooMany
from aheadsums.ratios import Ratio
from aheadsums.tables import Table


class LikeAll:
    """Something that says that it is equal to each value."""

    def __eq__(self, other):
        return True

    def __ne__(self, other):
        return False


class LikeOne:
    """Something that can be taken for the number 1, but is none."""

    def __index__(self):
        return 1

    def __int__(self):
        return 1


class Unlikeable:
    """Something that cannot be compared, measured, iterated over or tested."""

    def __eq__(self, other):
        raise RuntimeError("compared")

    def __len__(self):
        raise RuntimeError("measured")

    def __iter__(self):
        raise RuntimeError("iterated over")

    def __bool__(self):
        raise RuntimeError("tested")


def odd_values():
    """Values that are no INTEGER, no Ratio, and neither a list nor a tuple."""
    return [
        True, False, None, "", "1", "ahead", b"1", {}, {0: 1}, set(), {1}, frozenset([1]), object(), int, Ratio, len,
        Fraction(1), Fraction(1, 2), Decimal(1), range(2), iter([1]), NotImplemented, Ellipsis,
        LikeAll(), LikeOne(), Unlikeable(),
    ]


def no_numbers():
    """Values that are no NUMBER."""
    return odd_values() + [[], [1], (), (1,), (1, 2), [Ratio(1)], Table(0, [])]


def no_integers():
    """Values that are no INTEGER."""
    return no_numbers() + [Ratio(0), Ratio(1), Ratio(1, 2)]


def no_counts():
    """Values that are no COUNT."""
    return no_integers() + [-1, -2, -10 ** 30]


def no_columns():
    """Values that are no count of columns."""
    return no_counts() + [4, 5, 10 ** 30]


def no_tables():
    """Values that are no Table."""
    return odd_values() + [0, 1, Ratio(1), [], [[1]], (), (1, [[1]])]


def no_letters():
    """Values that are no letter for one column."""
    no_powers = no_counts() + [9, 10, 16, 10 ** 30]
    return (odd_values() + [0, 1, Ratio(1), [], [1], [0], (), (1, 1), ((1,),), [(1,)], "(1)"]
            + [(power,) for power in no_powers])


def no_words():
    """Values that are no word for one column."""
    return (odd_values() + [0, 1, Ratio(1), [], [(1,)], (1,), (0,), ((1,),) * 9, ((0,),) * 200]
            + [((1,), value) for value in no_letters()] + [(value,) for value in no_letters()])


def fraction(number):
    """The Fraction of a NUMBER."""
    return Fraction(number) if isinstance(number, int) else Fraction(number.top, number.bottom)


def fractions(numbers):
    """The Fractions of NUMBERS."""
    return [fraction(number) for number in numbers]


def rows_of(table):
    """The rows of a table as lists of Fractions."""
    return [fractions(row) for row in table.rows()]


def letter_at(letter, row):
    """What a letter comes to at a row of Fractions, straight from its definition."""
    worth = Fraction(1)
    for power, number in zip(letter, row):
        for _ in range(power):
            worth *= number
    return worth


def sum_over_choices(word, rows):
    """A word's sum over rows of Fractions, straight from its definition."""
    whole = Fraction(0)
    for chosen in combinations(rows, len(word)):
        worth = Fraction(1)
        for letter, row in zip(word, chosen):
            worth *= letter_at(letter, row)
        whole += worth
    return whole


class Case(unittest.TestCase):
    """A test case with words for what the document promises."""

    def same(self, found, wanted):
        """Equal, and of the same kind, down to what lists and tuples contain."""
        self.assertEqual(found, wanted)
        self.same_kind(found, wanted)

    def same_kind(self, found, wanted):
        self.assertIs(type(found), type(wanted), (found, wanted))
        if isinstance(wanted, (list, tuple)):
            for one, other in zip(found, wanted):
                self.same_kind(one, other)

    def worth(self, number, wanted):
        """A Ratio that is worth so much."""
        self.assertIsInstance(number, Ratio)
        self.assertEqual(fraction(number), wanted)

    def worths(self, numbers, wanted):
        """A list of Ratios that are worth so much."""
        self.assertIs(type(numbers), list)
        self.assertEqual(len(numbers), len(wanted))
        for number, one in zip(numbers, wanted):
            self.worth(number, one)

    def raised(self, error, function, /, *args, **named):
        """The error of just this class that a call raises."""
        with self.assertRaises(error) as caught:
            function(*args, **named)
        self.assertIs(type(caught.exception), error)
        return caught.exception

    def refuses(self, error, value, function, /, *args, **named):
        """The call raises this error, with this value."""
        self.is_passed(self.raised(error, function, *args, **named).value, value)

    def is_passed(self, found, value):
        """What was passed, or an equal value of the same kind."""
        if found is not value:
            self.same(found, value)

    def too_many(self, what, limit, function, /, *args, **named):
        """The call raises TooMany with these."""
        error = self.raised(TooMany, function, *args, **named)
        self.same((error.what, error.limit), (what, limit))

    def refuses_each(self, function, good, wrong):
        """Each parameter has its error, by position and by name, ahead of those of the later ones.

        good: a dict of all parameters, in their sequence, with what may be passed;
        wrong: a dict of parameters with an error and a list of values that are not valid.
        """
        names = list(good)
        function(*good.values())
        function(**good)
        for at, name in enumerate(names):
            if name not in wrong:
                continue
            error, values = wrong[name]
            for value in values:
                passed = dict(good)
                passed[name] = value
                self.refuses(error, value, function, *passed.values())
                self.refuses(error, value, function, **passed)
                for late in names[at + 1:]:
                    if late in wrong:
                        passed[late] = wrong[late][1][0]
                self.refuses(error, value, function, *passed.values())

    def leaves(self, function, *args):
        """The call leaves the lists that it is passed as they were; what it returned."""
        ahead = copy.deepcopy(args)
        answer = function(*args)
        self.same(args, ahead)
        return answer

    def is_new(self, function, *args):
        """The list that the call returns can be changed, whatever lists it contains, and the next one is as it was."""
        first, second = function(*args), function(*args)
        self.assertIs(type(first), list)
        self.assertIsNot(first, second)
        self.spoil(first)
        self.same(second, function(*args))

    def spoil(self, value):
        for one in value:
            if isinstance(one, (list, tuple)):
                self.spoil(one)
        if isinstance(value, list):
            value.append("spoiled")
            value.reverse()
