"""Alike forms, and least tables that part the others: points 51, 52 and 56 of the document."""

import random
import unittest

from aheadsums.alikes import is_parting, least_unlike, parting, parting_rows
from aheadsums.errors import InvalidForm, UnlikeColumns
from aheadsums.forms import Form, form_plus, form_times, form_worths
from aheadsums.making import form_of
from aheadsums.programs import Program, results
from aheadsums.ratios import Ratio
from aheadsums.tables import Table
from tests.helping import (Case, all_tables, form_at, letters_of, no_counts, no_forms, no_tables, odd_values, some_form,
                           some_table, some_term, worths_of)

OWN = Form(1, [(((), (1,), ()), 1)])
BOTH = Form(1, [(((), (1,), ()), 1), ((((1,),), (0,), ()), 1)])
FUNCTIONS = (parting_rows, least_unlike, parting)


def unlike_terms(form, other):
    """The terms with unlike factors, 0 where they don't stand."""
    ours = {term: (factor.top, factor.bottom) for term, factor in form.parts()}
    theirs = {term: (factor.top, factor.bottom) for term, factor in other.parts()}
    return [term for term in {**ours, **theirs} if ours.get(term) != theirs.get(term)]


def length_of(term):
    return len(term[0]) + 1 + len(term[2])


def some_pairs(chance, many, columns_to, longest):
    """Two forms that have some parts in common, for as many columns."""
    pairs = []
    for turn in range(many):
        columns = turn % columns_to
        common, one, other = [some_form(chance, columns, longest) for _ in range(3)]
        pairs.append((form_plus(common, one), form_plus(common, other if turn % 5 else one)))
    return pairs


class PartingTest(Case):
    def test_shortest_unlike_terms(self):
        for form, other in some_pairs(random.Random(51), 200, 4, 4):
            terms = unlike_terms(form, other)
            least = min([length_of(term) for term in terms], default=None)
            self.same(parting_rows(form, other), least)
            self.same(parting_rows(other=form, form=other), least)
            wanted = sorted([term for term in terms if length_of(term) == least])
            self.same(least_unlike(form, other), wanted)
            self.same(least_unlike(other=form, form=other), wanted)

    def test_a_parting_of_so_many_rows(self):
        for form, other in some_pairs(random.Random(52), 200, 4, 4):
            found = parting(form, other)
            if not unlike_terms(form, other):
                self.assertIsNone(found)
                continue
            table, position = found
            self.assertIs(type(found), tuple)
            self.same([table.columns, table.height], [form.columns, parting_rows(form, other)])
            self.assertNotEqual(form_at(form, table, position), form_at(other, table, position))
            self.assertIs(is_parting(form, other, found), True)
            self.assertEqual(parting(other=other, form=form), found)

    def test_none_with_fewer_rows(self):
        for form, other in some_pairs(random.Random(53), 60, 2, 3):
            least = parting_rows(form, other)
            for height in range(4 if least is None else least):
                # By point 44 all numbers to the greatest power are enough.
                for table in all_tables(form.columns, height, range(3)):
                    self.assertEqual(form_worths(form, table), form_worths(other, table))

    def test_8_letters_of_3_columns(self):
        chance = random.Random(54)
        for _ in range(10):
            terms = [some_term(chance, 3, 8, 8) for _ in range(30)]
            form, other = [Form(3, [(term, chance.randrange(1, 10 ** 6)) for term in part])
                           for part in (terms[:20], terms[10:])]
            self.same(parting_rows(form, other), 8)
            table, position = parting(form, other)
            self.same(table.height, 8)
            self.assertIs(is_parting(form, other, (table, position)), True)
            self.assertNotEqual(form_at(form, table, position), form_at(other, table, position))

    def test_roots_are_kept_clear_of(self):
        # This comes to 0 at all numbers from 0 to 7.
        factors = [1]
        for root in range(8):
            factors = [one - root * two for one, two in zip([0] + factors, factors + [0])]
        form = Form(1, [(((), (power,), ()), factor) for power, factor in enumerate(factors)])
        self.assertEqual(form_worths(form, Table(1, [[number] for number in range(8)])), [Ratio(0)] * 8)
        self.assertIs(is_parting(form, Form(1, []), parting(form, Form(1, []))), True)
        high = Form(1, [((((8,),), (power,), ()), factor) for power, factor in enumerate(factors)])
        self.assertIs(is_parting(high, Form(1, []), parting(high, Form(1, []))), True)

    def test_more_than_400_unlike_terms(self):
        letters = letters_of(3, range(9))
        form, other = [Form(3, [((((1, 1, 1),), letter, ()), 1) for letter in part])
                       for part in (letters[:400], letters[300:700])]
        self.same([parting_rows(form, other), len(least_unlike(form, other))], [2, 600])
        self.assertIs(is_parting(form, other, parting(form, other)), True)
        self.same(len(least_unlike(form, Form(3, []))), 400)

    def test_on_both_sides(self):
        form = Form(1, [((((1,),), (0,), ()), 1), (((), (0,), ((1,),)), -1)])
        self.same(least_unlike(form, Form(1, [])), [((), (0,), ((1,),)), (((1,),), (0,), ())])
        self.assertIs(is_parting(form, Form(1, []), parting(form, Form(1, []))), True)

    def test_the_example(self):
        self.same(parting_rows(OWN, BOTH), 2)
        for number in (0, 1, -3, Ratio(1, 2)):
            self.assertIs(is_parting(OWN, BOTH, (Table(1, [[number]]), 0)), False)
        self.assertIs(is_parting(OWN, BOTH, (Table(1, [[1], [0]]), 1)), True)
        self.assertIs(is_parting(OWN, BOTH, (Table(1, [[1], [0]]), 0)), False)

    def test_alike_ones(self):
        for columns in range(4):
            form = some_form(random.Random(columns), columns, 4)
            again = form_times(form_times(form, Ratio(1, 7)), 7)
            self.same([parting_rows(form, again), least_unlike(form, again), parting(form, again)], [None, [], None])

    def test_without_columns(self):
        form, other = Form(0, [((((),), (), ()), 1)]), Form(0, [(((), (), ((),)), 1)])
        table, position = parting(form, other)
        self.same([table.columns, table.height], [0, 2])
        self.assertIs(is_parting(form, other, (table, position)), True)
        self.same([parting_rows(form, other), len(least_unlike(form, other))], [2, 2])

    def test_what_is_told_is_new(self):
        self.is_new(least_unlike, OWN, BOTH)

    def test_the_example_of_point_56(self):
        own = Program(1, [("column", 0)])
        both = Program(1, [("column", 0), ("ahead", 0), ("sum", 0, 1)])
        self.assertEqual([form_of(own), form_of(both)], [OWN, BOTH])
        for number in (0, 1, -1, 7, Ratio(-2, 3)):
            table = Table(1, [[number]])
            self.assertEqual(results(own, table), results(both, table))
            self.assertIs(is_parting(OWN, BOTH, (table, 0)), False)
        table = Table(1, [[1], [0]])
        self.assertEqual([results(own, table), results(both, table)], [[Ratio(1), Ratio(0)], [Ratio(1), Ratio(1)]])
        self.same([parting_rows(OWN, BOTH), is_parting(OWN, BOTH, (table, 1))], [2, True])

    def test_errors(self):
        for function in FUNCTIONS:
            self.refuses_each(function, {"form": OWN, "other": BOTH},
                              {"form": (InvalidForm, no_forms()), "other": (InvalidForm, no_forms())})
            for columns in range(4):
                for others in range(4):
                    if columns != others:
                        self.raised(UnlikeColumns, function, Form(columns, []), Form(others, []))


class IsPartingTest(Case):
    def test_by_the_results(self):
        chance = random.Random(55)
        for form, other in some_pairs(chance, 120, 4, 3):
            table = some_table(chance, form.columns, chance.randrange(6))
            unlike = [one != two for one, two in zip(worths_of(form, table), worths_of(other, table))]
            for position in range(table.height + 2):
                wanted = position < table.height and unlike[position]
                self.assertIs(is_parting(form, other, (table, position)), wanted)
                self.assertIs(is_parting(value=(table, position), other=form, form=other), wanted)

    def test_40_rows(self):
        self.assertIs(is_parting(OWN, BOTH, (Table(1, [[0]] * 39 + [[1]]), 39)), False)
        self.assertIs(is_parting(OWN, BOTH, (Table(1, [[0]] * 38 + [[1], [0]]), 39)), True)

    def test_of_any_value(self):
        table = Table(1, [[1], [1]])
        self.assertIs(is_parting(OWN, BOTH, (table, 1)), True)
        values = odd_values() + [0, Ratio(1), table, (), [], (table,), (table, 1, 1), [table, 1], (1, table)]
        values += [(table, value) for value in no_counts() + [2, 3, 10 ** 30, Ratio(1), [1], "1"]]
        values += [(value, 1) for value in no_tables() + [OWN]]
        values += [(Table(columns, [[1] * columns] * 2), 1) for columns in (0, 2, 3)]
        values += [(Table(1, []), 0), ([[1], [1]], 1), (table, table)]
        for value in values:
            self.assertIs(is_parting(OWN, BOTH, value), False)

    def test_errors(self):
        self.refuses_each(is_parting, {"form": OWN, "other": BOTH, "value": None},
                          {"form": (InvalidForm, no_forms()), "other": (InvalidForm, no_forms())})
        for value in (None, (Table(1, [[1]]), 0)):
            self.raised(UnlikeColumns, is_parting, OWN, Form(2, []), value)


if __name__ == "__main__":
    unittest.main()
