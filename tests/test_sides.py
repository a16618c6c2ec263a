"""Forms told from both sides of a row: point 75 of the document."""

import random
import unittest
from fractions import Fraction

from aheadsums.errors import InvalidForm
from aheadsums.forms import Form, form_plus, form_product, form_times
from aheadsums.ratios import Ratio
from aheadsums.sides import is_meeting, meeting, side_numbers
from aheadsums.tallies import Tally, tally_times
from tests.helping import (Case, form_at_rows, fraction, letter_at, letters_of, no_forms, no_letters, no_numbers,
                           no_tallies, odd_values, rank_of, rows_of, some_form, some_table, some_tally, some_term,
                           worth_at_rows)

BOTH = Form(1, [((((1,),), (0,), ((1,),)), 3)])
X, ONE = Tally(1, [(((1,),), 1)]), Tally(1, [((), 1)])


def ranks(form):
    """The two ranks of point 75, by plain elimination."""
    factors = {term: fraction(factor) for term, factor in form.parts()}
    lefts = sorted({left for left, own, right in factors})
    rights = sorted({right for left, own, right in factors})
    owns = sorted({own for left, own, right in factors})
    by_left = [[factors.get((left, own, right), Fraction(0)) for own in owns for right in rights] for left in lefts]
    by_right = [[factors.get((left, own, right), Fraction(0)) for left in lefts for own in owns] for right in rights]
    return rank_of(by_left), rank_of(by_right)


def told_at(value, table, at):
    """What the tallies and numbers tell at a row, by the words of point 75."""
    lefts, rights, told = value
    rows = rows_of(table)
    ahead = [worth_at_rows(tally, rows[:at]) for tally in lefts]
    behind = [worth_at_rows(tally, rows[at + 1:]) for tally in rights]
    return sum([fraction(number) * letter_at(letter, rows[at]) * one * other for letter, lists in told
                for one, numbers in zip(ahead, lists) for other, number in zip(behind, numbers)], Fraction(0))


def some_products(chance, columns):
    """A form that is a sum of products of a tally ahead, a letter and a tally behind."""
    whole = Form(columns, [])
    for _ in range(chance.randrange(3)):
        lefts, rights = some_tally(chance, columns, 2), some_tally(chance, columns, 2)
        own = some_term(chance, columns, 1)[1]
        whole = form_plus(whole, Form(columns, [((left, own, right), one * other) for left, one in lefts.parts()
                                                for right, other in rights.parts()]))
    return whole


class NumbersTest(Case):
    def test_ranks(self):
        chance = random.Random(111)
        for turn in range(200):
            form = some_form(chance, turn % 4, 4) if turn % 2 else some_products(chance, turn % 4)
            self.same(side_numbers(form), ranks(form))
            self.same(side_numbers(form=form), ranks(form))

    def test_unlike_numbers(self):
        # Two right tallies behind one left one, with unlike own letters; and the other way round.
        form = Form(1, [((((1,),), (0,), ((1,),)), 1), ((((1,),), (1,), ((2,),)), 1)])
        self.same(side_numbers(form), (1, 2))
        self.same(side_numbers(Form(1, [((right, own, left), factor) for (left, own, right), factor in form.parts()])),
                  (2, 1))
        self.same([side_numbers(Form(2, [])), side_numbers(BOTH)], [(0, 0), (1, 1)])

    def test_many(self):
        chance = random.Random(112)
        form = Form(1, [(some_term(chance, 1, chance.randrange(1, 6), 1), at + 1) for at in range(100)])
        self.same(side_numbers(form), ranks(form))
        # 400 terms with unlike letters, ahead of the row, at it and behind it.
        letters = letters_of(3, range(9))
        apart = Form(3, [(((letters[at],), letters[at + 1], (letters[at + 2],) * 6), at + 1) for at in range(400)])
        self.same(side_numbers(apart), (400, 400))

    def test_errors(self):
        for function in (side_numbers, meeting):
            self.refuses_each(function, {"form": BOTH}, {"form": (InvalidForm, no_forms())})


class MeetingTest(Case):
    def check(self, form, chance):
        found = meeting(form)
        self.assertIs(type(found), tuple)
        for part in found:
            self.assertIs(type(part), list)
        lefts, rights, told = found
        self.same((len(lefts), len(rights)), ranks(form))
        for tally in lefts + rights:
            self.assertIsInstance(tally, Tally)
            self.same(tally.columns, form.columns)
        self.same(len({letter for letter, lists in told}), len(told))
        for letter, lists in told:
            self.same(len(lists), len(lefts))
            self.assertTrue(all(len(row) == len(rights) and all(isinstance(one, Ratio) for one in row)
                                for row in lists))
        for height in (1, 3, 4):
            table = some_table(chance, form.columns, height)
            for at in range(height):
                self.assertEqual(told_at(found, table, at), form_at_rows(form, rows_of(table), at))
        self.assertIs(is_meeting(form, found), True)
        self.assertIs(is_meeting(value=found, form=form), True)
        self.assertEqual(meeting(form=form), found)

    def test_the_form_is_told(self):
        chance = random.Random(113)
        for turn in range(150):
            self.check(some_form(chance, turn % 4, 4) if turn % 2 else some_products(chance, turn % 4), chance)
        self.check(Form(3, []), chance)

    def test_many_terms(self):
        chance = random.Random(114)
        self.check(Form(1, [(some_term(chance, 1, chance.randrange(1, 5), 2), Ratio(at + 1, 7)) for at in range(60)]),
                   chance)

    def test_what_is_told_is_new(self):
        first = meeting(BOTH)
        first[2][0][1][0][0] = 5
        first[0].pop()
        self.assertIs(is_meeting(BOTH, meeting(BOTH)), True)


class IsMeetingTest(Case):
    def test_other_meetings(self):
        self.assertIs(is_meeting(BOTH, ([X], [X], [((0,), [[3]])])), True)
        lefts, rights = (tally_times(X, 3),), (tally_times(X, Ratio(1, 2)),)
        self.assertIs(is_meeting(BOTH, (lefts, rights, (((0,), ((2,),)),))), True)
        self.assertIs(is_meeting(BOTH, ([X], [X], [((0,), [[3]]), ((1,), [[0]])])), True)
        for told in ([((0,), [[1]])], [((1,), [[3]])], [], [((0,), [[3]]), ((1,), [[1]])], [((0,), [[-3]])]):
            self.assertIs(is_meeting(BOTH, ([X], [X], told)), False)

    def test_just_as_few_tallies(self):
        nothing = Tally(1, [])
        for value in (([X, nothing], [X], [((0,), [[3], [0]])]), ([X], [X, nothing], [((0,), [[3, 0]])]),
                      ([X, X], [X], [((0,), [[1], [2]])]), ([], [X], [((0,), [])]), ([X], [], [((0,), [[]])])):
            self.assertIs(is_meeting(BOTH, value), False)
        empty = Form(1, [])
        for value, wanted in ((([], [], []), True), (([], [], [((0,), [])]), True), (([X], [], []), False),
                              (([], [], [((0,), [[]])]), False), (([nothing], [nothing], []), False)):
            self.assertIs(is_meeting(empty, value), wanted)

    def test_sums_of_multiples_of_tallies(self):
        chance = random.Random(115)
        for turn in range(80):
            form = form_plus(some_products(chance, turn % 3), some_form(chance, turn % 3, 3))
            lefts, rights, told = meeting(form)
            if len(lefts) < 2:
                continue
            # The first two left tallies taken as their sum and the second one.
            first = Tally(form.columns, lefts[0].parts() + lefts[1].parts())
            other = [(letter, [lists[0], [two - one for one, two in zip(lists[0], lists[1])]] + lists[2:])
                     for letter, lists in told]
            self.assertIs(is_meeting(form, ([first] + lefts[1:], rights, other)), True)
            self.assertIs(is_meeting(form, ([first] + lefts[1:], rights, told)), False)
            self.assertIs(is_meeting(form, (lefts[::-1], rights, [(letter, lists[::-1]) for letter, lists in told])),
                          True)

    def test_another_form(self):
        chance = random.Random(116)
        for turn in range(80):
            form, other = [some_form(chance, 1, 3) for _ in range(2)]
            self.assertIs(is_meeting(other, meeting(form)), form == other)
            self.assertIs(is_meeting(form_times(form, 2), meeting(form)), not form.parts())

    def test_words_that_no_form_has(self):
        long = Tally(1, [(((1,),) * 8, 1)])
        self.assertIs(is_meeting(BOTH, ([long], [X], [((0,), [[3]])])), False)
        self.assertIs(is_meeting(BOTH, ([X], [long], [((0,), [[3]])])), False)
        many = Tally(1, X.parts() + [(((1,), (at,)), 1) for at in range(9)])
        self.assertIs(is_meeting(BOTH, ([many], [X], [((0,), [[3]])])), False)
        self.assertIs(is_meeting(BOTH, ([ONE], [X], [((0,), [[3]])])), False)

    def test_of_any_value(self):
        good = ([X], [X], [((0,), [[3]])])
        self.assertIs(is_meeting(BOTH, good), True)
        values = odd_values() + [0, Ratio(1), (), [], list(good), good[:2], good + ([],), ([], [], [])]
        for value in no_tallies() + [Tally(columns, []) for columns in (0, 2, 3)]:
            values += [([value], [X], good[2]), ([X], [value], good[2])]
        for value in odd_values() + [0, Ratio(1), X]:
            values += [(value, [X], good[2]), ([X], value, good[2]), ([X], [X], value), ([X], [X], [value])]
            values += [([X], [X], [((0,), value)]), ([X], [X], [((0,), [value])])]
        for letter in no_letters():
            values += [([X], [X], [((0,), [[3]]), (letter, [[0]])]), ([X], [X], [(letter, [[3]])])]
        values += [([X], [X], [((0,), [[number]])]) for number in no_numbers()]
        values += [([X], [X], [((0,), [[3, 0]])]), ([X], [X], [((0,), [[3], [0]])]), ([X], [X], [((0,), [])]),
                   ([X], [X], [((0,), [[]])]), ([X], [X], [[(0,), [[3]]]]), ([X], [X], [((0,), [[3]], 1)]),
                   ([X], [X], [((0,), [[1]]), ((0,), [[2]])]), ([X], [X], [((0,), [[3]]), ((0,), [[0]])])]
        for value in values:
            self.assertIs(is_meeting(BOTH, value), False)

    def test_products_of_forms(self):
        ahead, behind = Form(1, [((((1,),), (0,), ()), 1)]), Form(1, [(((), (1,), ((0,),)), 1)])
        self.assertIs(is_meeting(form_product(ahead, behind), ([X], [ONE], [((1,), [[1]])])), False)
        self.assertIs(is_meeting(form_product(ahead, behind), ([X], [Tally(1, [(((0,),), 2)])],
                                                              [((1,), [[Ratio(1, 2)]])])), True)

    def test_errors(self):
        self.refuses_each(is_meeting, {"form": BOTH, "value": None}, {"form": (InvalidForm, no_forms())})


if __name__ == "__main__":
    unittest.main()
