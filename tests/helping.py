"""What the test files share: a test case that knows errors, odd values, and what is worked out by plain rules."""

import copy
import unittest
from decimal import Decimal
from fractions import Fraction
from itertools import combinations, product

from aheadsums.errors import TooMany
from aheadsums.forms import Form
from aheadsums.ratios import Ratio
from aheadsums.runs import Runs
from aheadsums.tables import Table
from aheadsums.tallies import Tally


class LikeAll:
    """Something that says that it is equal to each value."""

    def __eq__(self, other):
        return True

    def __ne__(self, other):
        return False


class LikeOne:
    """Something that can be taken for the number 1, but is none."""

    def __index__(self):
        return 1

    def __int__(self):
        return 1


class Unlikeable:
    """Something that cannot be compared, measured, iterated over or tested."""

    def __eq__(self, other):
        raise RuntimeError("compared")

    def __len__(self):
        raise RuntimeError("measured")

    def __iter__(self):
        raise RuntimeError("iterated over")

    def __bool__(self):
        raise RuntimeError("tested")


def odd_values():
    """Values that are no INTEGER, no Ratio, and neither a list nor a tuple."""
    return [
        True, False, None, "", "1", "ahead", b"1", {}, {0: 1}, set(), {1}, frozenset([1]), object(), int, Ratio, len,
        Fraction(1), Fraction(1, 2), Decimal(1), range(2), iter([1]), NotImplemented, Ellipsis,
        LikeAll(), LikeOne(), Unlikeable(),
    ]


def no_numbers():
    """Values that are no NUMBER."""
    return odd_values() + [[], [1], (), (1,), (1, 2), [Ratio(1)], Table(0, [])]


def no_integers():
    """Values that are no INTEGER."""
    return no_numbers() + [Ratio(0), Ratio(1), Ratio(1, 2)]


def no_counts():
    """Values that are no COUNT."""
    return no_integers() + [-1, -2, -10 ** 30]


def no_columns():
    """Values that are no count of columns."""
    return no_counts() + [4, 5, 10 ** 30]


def no_tables():
    """Values that are no Table."""
    return odd_values() + [0, 1, Ratio(1), [], [[1]], (), (1, [[1]])]


def no_letters(most=8):
    """Values that are no letter for one column with a power to this one."""
    no_powers = no_counts() + [most + 1, most + 2, most + 8, 10 ** 30]
    return (odd_values() + [0, 1, Ratio(1), [], [1], [0], (), (1, 1), ((1,),), [(1,)], "(1)"]
            + [(power,) for power in no_powers])


def no_words(most=8):
    """Values that are no word for one column with powers to this one."""
    return (odd_values() + [0, 1, Ratio(1), [], [(1,)], (1,), (0,), ((1,),) * 9, ((0,),) * 200]
            + [((1,), value) for value in no_letters(most)] + [(value,) for value in no_letters(most)])


def fraction(number):
    """The Fraction of a NUMBER."""
    return Fraction(number) if isinstance(number, int) else Fraction(number.top, number.bottom)


def fractions(numbers):
    """The Fractions of NUMBERS."""
    return [fraction(number) for number in numbers]


def rows_of(table):
    """The rows of a table as lists of Fractions."""
    return [fractions(row) for row in table.rows()]


def letter_at(letter, row):
    """What a letter comes to at a row of Fractions, straight from its definition."""
    worth = Fraction(1)
    for power, number in zip(letter, row):
        for _ in range(power):
            worth *= number
    return worth


def sum_over_choices(word, rows):
    """A word's sum over rows of Fractions, straight from its definition."""
    whole = Fraction(0)
    for chosen in combinations(rows, len(word)):
        worth = Fraction(1)
        for letter, row in zip(word, chosen):
            worth *= letter_at(letter, row)
        whole += worth
    return whole


def column_of(steps, at, rows):
    """What the step at a position makes of rows of Fractions, straight from the definition."""
    word, parts = steps[at][0], steps[at][1:]
    if word == "column":
        return [row[parts[0]] for row in rows]
    if word == "told":
        return [fraction(parts[0]) for _ in rows]
    made = [column_of(steps, part, rows) for part in parts]
    if word == "ahead":
        return [sum(made[0][:k], Fraction(0)) for k in range(len(rows))]
    if word == "behind":
        return [sum(made[0][k + 1:], Fraction(0)) for k in range(len(rows))]
    if word == "sum":
        return [one + other for one, other in zip(*made)]
    if word == "less":
        return [one - other for one, other in zip(*made)]
    return [one * other for one, other in zip(*made)]


def some_steps(chance, columns, many):
    """Steps of all kinds, each of which takes columns of steps not far ahead of it."""
    steps = []
    for at in range(many):
        words = ["told"] + ["column"] * (2 if columns else 0)
        if at:
            words += ["sum", "less", "times", "ahead", "behind"]
        word = chance.choice(words)
        if word == "column":
            steps.append((word, chance.randrange(columns)))
        elif word == "told":
            steps.append((word, chance.choice([0, 1, -2, Ratio(1, 2), Ratio(-5, 3), Ratio(4)])))
        elif word in ("ahead", "behind"):
            steps.append((word, chance.randrange(max(0, at - 4), at)))
        else:
            steps.append((word, chance.randrange(max(0, at - 4), at), chance.randrange(at)))
    return steps


def some_table(chance, columns, height):
    """A table of small numbers of both kinds."""
    numbers = [0, 1, -1, 2, 3, Ratio(1, 2), Ratio(-2, 3)]
    return Table(columns, [[chance.choice(numbers) for _ in range(columns)] for _ in range(height)])


def no_tallies():
    """Values that are no Tally."""
    return odd_values() + [0, 1, Ratio(1), [], [((), 1)], (), (1, []), Table(1, [[2]])]


def no_forms():
    """Values that are no Form."""
    return no_tallies() + [[(((), (1,), ()), 1)], Tally(1, []), Tally(1, [((), 1)])]


def letters_of(columns, powers):
    """All letters with such powers."""
    return [letter for letter in product(powers, repeat=columns)]


def words_to(columns, letters, power):
    """All words of at most so many letters, with powers that are at most so great."""
    return [word for many in range(letters + 1) for word in product(letters_of(columns, range(power + 1)), repeat=many)]


def terms_to(columns, letters, power):
    """All terms of at most so many letters, with powers that are at most so great."""
    return [(word[:at], word[at], word[at + 1:]) for word in words_to(columns, letters, power)
            for at in range(len(word))]


def all_tables(columns, height, numbers):
    """All tables of so many rows of these numbers."""
    return [Table(columns, rows) for rows in product(product(numbers, repeat=columns), repeat=height)]


def some_word(chance, columns, many, power=2):
    """A word of so many letters."""
    return tuple(tuple(chance.randrange(power + 1) for _ in range(columns)) for _ in range(many))


def some_term(chance, columns, many, power=2):
    """A term of so many letters, the own one counted."""
    word, at = some_word(chance, columns, many, power), chance.randrange(many)
    return word[:at], word[at], word[at + 1:]


def some_factor(chance):
    return chance.choice([1, -1, 2, Ratio(1, 2), Ratio(-5, 3), 0])


def some_tally(chance, columns, longest):
    """A tally of a few words, of which some may be told twice."""
    return Tally(columns, [(some_word(chance, columns, chance.randrange(longest + 1)), some_factor(chance))
                           for _ in range(chance.randrange(5))])


def some_form(chance, columns, longest):
    """A form of a few terms, of which some may be told twice."""
    return Form(columns, [(some_term(chance, columns, chance.randrange(1, longest + 1)), some_factor(chance))
                          for _ in range(chance.randrange(5))])


def worth_of(tally, table):
    """What a tally comes to, out of choices of rows."""
    rows = rows_of(table)
    return sum([fraction(factor) * sum_over_choices(word, rows) for word, factor in tally.parts()], Fraction(0))


def term_at(term, rows, at):
    """What a term comes to at a row of rows of Fractions, out of choices of rows."""
    left, own, right = term
    return sum_over_choices(left, rows[:at]) * letter_at(own, rows[at]) * sum_over_choices(right, rows[at + 1:])


def form_at(form, table, at):
    """What a form comes to at a row, out of choices of rows."""
    rows = rows_of(table)
    return sum([fraction(factor) * term_at(term, rows, at) for term, factor in form.parts()], Fraction(0))


def worths_of(form, table):
    """The list of what a form comes to at each row, out of choices of rows."""
    return [form_at(form, table, at) for at in range(table.height)]


def rank_of(rows):
    """How many rows of Fractions are independent, by plain elimination."""
    left, rank = [list(row) for row in rows], 0
    for at in range(len(rows[0]) if rows else 0):
        found = [row for row in left if row[at] != 0]
        if found:
            pivot = found[0]
            left = [[one - row[at] / pivot[at] * two for one, two in zip(row, pivot)]
                    for row in left if row is not pivot]
            rank += 1
    return rank


def determinant_of(rows):
    """The determinant of a square of Fractions, by plain elimination; that of none is 1."""
    left, worth = [list(row) for row in rows], Fraction(1)
    while left:
        found = [at for at, row in enumerate(left) if row[0] != 0]
        if not found:
            return Fraction(0)
        pivot = left.pop(found[0])
        worth *= pivot[0] * (-1) ** found[0]
        left = [[one - row[0] / pivot[0] * two for one, two in zip(row[1:], pivot[1:])] for row in left]
    return worth


def form_at_rows(form, rows, at):
    """What a form comes to at a row of rows of Fractions, however many there are."""
    return sum([fraction(factor) * term_at(term, rows, at) for term, factor in form.parts()], Fraction(0))


def worth_at_rows(tally, rows):
    """What a tally comes to on rows of Fractions, however many there are."""
    return sum([fraction(factor) * sum_over_choices(word, rows) for word, factor in tally.parts()], Fraction(0))


def some_forward_form(chance, columns, longest, many=5, power=1):
    """A form without right words, of a few terms."""
    return Form(columns, [((some_word(chance, columns, chance.randrange(longest), power),
                            some_word(chance, columns, 1, power)[0], ()), some_factor(chance))
                          for _ in range(chance.randrange(many + 1))])


def no_readers():
    """Values that are no Reader."""
    return odd_values() + [0, Ratio(1), [], (), (1, [1], [], []), Table(1, []), Form(1, [])]


def no_runs():
    """Values that are no Runs."""
    return odd_values() + [0, Ratio(1), [], (), (1, []), [([2], 1)], Table(1, [[2]]), Form(1, []), Tally(1, [])]


def some_runs(chance, columns, most=3):
    """Runs of a few lots, each of at most so many rows."""
    lots = []
    for _ in range(chance.randrange(5)):
        row = [chance.choice([0, 1, -1, 2, Ratio(1, 2), Ratio(-2, 3)]) for _ in range(columns)]
        lots.append((row, chance.randrange(most + 1)))
    return Runs(columns, lots)


class Case(unittest.TestCase):
    """A test case with words for what the document promises."""

    def same(self, found, wanted):
        """Equal, and of the same kind, down to what lists and tuples contain."""
        self.assertEqual(found, wanted)
        self.same_kind(found, wanted)

    def same_kind(self, found, wanted):
        self.assertIs(type(found), type(wanted), (found, wanted))
        if isinstance(wanted, (list, tuple)):
            for one, other in zip(found, wanted):
                self.same_kind(one, other)

    def worth(self, number, wanted):
        """A Ratio that is worth so much."""
        self.assertIsInstance(number, Ratio)
        self.assertEqual(fraction(number), wanted)

    def worths(self, numbers, wanted):
        """A list of Ratios that are worth so much."""
        self.assertIs(type(numbers), list)
        self.assertEqual(len(numbers), len(wanted))
        for number, one in zip(numbers, wanted):
            self.worth(number, one)

    def raised(self, error, function, /, *args, **named):
        """The error of just this class that a call raises."""
        with self.assertRaises(error) as caught:
            function(*args, **named)
        self.assertIs(type(caught.exception), error)
        return caught.exception

    def refuses(self, error, value, function, /, *args, **named):
        """The call raises this error, with this value."""
        self.is_passed(self.raised(error, function, *args, **named).value, value)

    def is_passed(self, found, value):
        """What was passed, or an equal value of the same kind."""
        if found is not value:
            self.same(found, value)

    def too_many(self, what, limit, function, /, *args, **named):
        """The call raises TooMany with these."""
        error = self.raised(TooMany, function, *args, **named)
        self.same((error.what, error.limit), (what, limit))

    def refuses_each(self, function, good, wrong):
        """Each parameter has its error, by position and by name, ahead of those of the later ones.

        good: a dict of all parameters, in their sequence, with what may be passed;
        wrong: a dict of parameters with an error and a list of values that are not valid.
        """
        names = list(good)
        function(*good.values())
        function(**good)
        for at, name in enumerate(names):
            if name not in wrong:
                continue
            error, values = wrong[name]
            for value in values:
                passed = dict(good)
                passed[name] = value
                self.refuses(error, value, function, *passed.values())
                self.refuses(error, value, function, **passed)
                for late in names[at + 1:]:
                    if late in wrong:
                        passed[late] = wrong[late][1][0]
                self.refuses(error, value, function, *passed.values())

    def leaves(self, function, *args):
        """The call leaves the lists that it is passed as they were; what it returned."""
        ahead = copy.deepcopy(args)
        answer = function(*args)
        self.same(args, ahead)
        return answer

    def is_new(self, function, *args):
        """The list that the call returns can be changed, whatever lists it contains, and the next one is as it was."""
        first, second = function(*args), function(*args)
        self.assertIs(type(first), list)
        self.assertIsNot(first, second)
        self.spoil(first)
        self.same(second, function(*args))

    def spoil(self, value):
        for one in value:
            if isinstance(one, (list, tuple)):
                self.spoil(one)
        if isinstance(value, list):
            value.append("spoiled")
            value.reverse()
