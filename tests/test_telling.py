"""Asked tables, and forms told back: point 44 of the document."""

import random
import unittest
from itertools import product

from aheadsums.errors import InvalidAnswers, InvalidColumns, InvalidForm, InvalidMany
from aheadsums.forms import Form, form_plus, form_worths
from aheadsums.programs import Program, results
from aheadsums.ratios import Ratio
from aheadsums.tables import Table
from aheadsums.telling import asked, fits, told_back
from tests.helping import Case, all_tables, no_columns, no_counts, no_forms, no_numbers, odd_values, terms_to, worths_of

NO_LETTERS = no_counts() + [0, 5, 6, 10 ** 30]
NO_POWERS = no_counts() + [4, 5, 10 ** 30]
BOUNDS = list(product(range(4), range(1, 5), range(4)))


def many_asked(columns, letters, power):
    return sum((power + 1) ** (columns * height) for height in range(1, letters + 1))


def kept_bounds():
    return [bounds for bounds in BOUNDS if many_asked(*bounds) <= 100]


def passed_bounds():
    return [bounds for bounds in BOUNDS if many_asked(*bounds) > 100]


def some_number(chance):
    return chance.choice([0, 1, -1, 7, Ratio(1, 2), Ratio(-5, 3), chance.randrange(-10 ** 6, 10 ** 6)])


class AskedTest(Case):
    def test_all_tables_in_their_sequence(self):
        for columns, letters, power in kept_bounds():
            wanted = [table for height in range(1, letters + 1)
                      for table in all_tables(columns, height, range(power + 1))]
            self.assertEqual(asked(columns, letters, power), wanted)
            self.assertEqual(asked(power=power, columns=columns, letters=letters), wanted)

    def test_known_ones(self):
        self.assertEqual(asked(1, 2, 1), [Table(1, rows) for rows in [
            [[0]], [[1]], [[0], [0]], [[0], [1]], [[1], [0]], [[1], [1]]]])
        self.assertEqual(asked(2, 1, 1), [Table(2, [row]) for row in [[0, 0], [0, 1], [1, 0], [1, 1]]])
        self.assertEqual(asked(0, 4, 3), [Table(0, [[]] * height) for height in range(1, 5)])
        self.assertEqual(asked(3, 4, 0), [Table(3, [[0, 0, 0]] * height) for height in range(1, 5)])

    def test_at_most_100(self):
        self.same([many_asked(1, 3, 3), many_asked(2, 2, 2), many_asked(3, 2, 1), many_asked(3, 1, 3)],
                  [84, 90, 72, 64])
        self.same([len(asked(1, 3, 3)), len(asked(2, 2, 2)), len(asked(3, 2, 1)), len(asked(3, 1, 3))],
                  [84, 90, 72, 64])
        for bounds in passed_bounds():
            self.too_many("tables", 100, asked, *bounds)

    def test_what_is_told_is_new(self):
        self.is_new(asked, 1, 2, 1)

    def test_errors(self):
        self.refuses_each(asked, {"columns": 1, "letters": 2, "power": 1},
                          {"columns": (InvalidColumns, no_columns()), "letters": (InvalidMany, NO_LETTERS),
                           "power": (InvalidMany, NO_POWERS)})


class ToldBackTest(Case):
    def test_any_answers(self):
        chance = random.Random(44)
        for columns, letters, power in kept_bounds():
            tables = asked(columns, letters, power)
            answers = [[some_number(chance) for _ in range(table.height)] for table in tables]
            form = self.leaves(told_back, columns, letters, power, answers)
            self.same(form.columns, columns)
            self.assertIs(fits(form, letters, power), True)
            for table, answer in list(zip(tables, answers))[::7]:
                self.worths(form_worths(form, table), worths_of(form, table))
            for table, answer in zip(tables, answers):
                self.assertEqual(form_worths(form, table), [number + Ratio(0) for number in answer])
            self.assertEqual(told_back(answers=tuple(tuple(answer) for answer in answers), letters=letters,
                                       columns=columns, power=power), form)

    def test_just_one_form(self):
        chance = random.Random(45)
        for columns, letters, power in kept_bounds():
            terms = terms_to(columns, letters, power)
            for many in (0, 1, 3, len(terms)):
                used = chance.sample(terms, min(many, len(terms)))
                form = Form(columns, [(term, some_number(chance)) for term in used])
                answers = [form_worths(form, table) for table in asked(columns, letters, power)]
                self.assertEqual(told_back(columns, letters, power, answers), form)

    def test_as_many_terms_as_answers(self):
        for columns, letters, power in kept_bounds():
            many = sum(table.height for table in asked(columns, letters, power))
            self.assertEqual(len(terms_to(columns, letters, power)), many)

    def test_a_program_is_told_back(self):
        square = Program(1, [("column", 0), ("ahead", 0), ("times", 1, 1)])
        answers = [results(square, table) for table in asked(1, 3, 2)]
        self.assertEqual(told_back(1, 3, 2, answers).parts(), [((((1,), (1,)), (0,), ()), Ratio(2)),
                                                               ((((2,),), (0,), ()), Ratio(1))])

    def test_known_ones(self):
        self.assertEqual(told_back(0, 2, 0, [[0], [0, 1]]), Form(0, [((((),), (), ()), 1)]))
        self.assertEqual(told_back(1, 1, 1, [[2], [5]]), Form(1, [(((), (0,), ()), 2), (((), (1,), ()), 3)]))
        self.assertEqual(told_back(1, 1, 2, [[0], [1], [4]]), Form(1, [(((), (2,), ()), 1)]))
        self.assertEqual(told_back(1, 1, 0, [[7]]), Form(1, [(((), (0,), ()), 7)]))

    def test_answers(self):
        good = [[1], [2], [0, 0], [0, 1], [1, 0], [Ratio(1, 2), 1]]
        wrong = odd_values() + [0, Ratio(1), [], (), good[:-1], good + [[0, 0]], good[::-1], [1, 2, 0, 0, 1, 1],
                                good[:-1] + [[1]], good[:-1] + [[1, 1, 1]], good[:-1] + [None], [[]] + good[1:],
                                Table(1, [[1]])]
        for value in no_numbers():
            wrong += [[[value]] + good[1:], good[:-1] + [[1, value]], good[:-1] + [[value, 1]]]
        wrong += [good[:-1] + [value] for value in odd_values()]
        self.refuses_each(told_back, {"columns": 1, "letters": 2, "power": 1, "answers": good},
                          {"columns": (InvalidColumns, no_columns()), "letters": (InvalidMany, NO_LETTERS),
                           "power": (InvalidMany, NO_POWERS), "answers": (InvalidAnswers, wrong)})

    def test_too_many_tables_come_ahead_of_the_answers(self):
        for bounds in passed_bounds():
            for answers in (None, [], [[1]]):
                self.too_many("tables", 100, told_back, *bounds, answers)


class FitsTest(Case):
    def test_each_bound(self):
        for left, right, power in product(range(4), range(4), range(6)):
            word = ((0,),) * (left + 1 + right)
            for at in range(len(word)):
                its = word[:at] + ((power,),) + word[at + 1:]
                form = Form(1, [((its[:left], its[left], its[left + 1:]), 1)])
                for letters, most in product(range(1, 5), range(4)):
                    self.assertIs(fits(form, letters, most), len(word) <= letters and power <= most)

    def test_each_term_and_column(self):
        small = Form(2, [(((), (0, 0), ()), 1)])
        for beyond in ([(((), (0, 3), ()), 1)], [(((), (3, 0), ()), 1)], [((((0, 0),) * 2, (0, 0), ()), 1)]):
            self.assertIs(fits(small, 2, 2), True)
            self.assertIs(fits(form_plus(small, Form(2, beyond)), 2, 2), False)
            self.assertIs(fits(form_plus(small, Form(2, beyond)), 3, 3), True)
        self.assertIs(fits(letters=1, power=0, form=Form(0, [])), True)

    def test_errors(self):
        self.refuses_each(fits, {"form": Form(1, []), "letters": 2, "power": 1},
                          {"form": (InvalidForm, no_forms()), "letters": (InvalidMany, NO_LETTERS),
                           "power": (InvalidMany, NO_POWERS)})
        # What does not fit by its letters is refused all the same for a power that is none.
        long = Form(1, [((((0,),) * 4, (0,), ()), 1)])
        self.refuses(InvalidMany, 4, fits, long, 1, 4)


if __name__ == "__main__":
    unittest.main()
