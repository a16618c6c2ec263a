"""Tallies and forms that do not hang on the order of the rows: points 61 to 63 of the document."""

import random
import unittest
from fractions import Fraction
from itertools import permutations

from aheadsums.errors import InvalidForm, InvalidTally
from aheadsums.forms import Form, form_plus, form_product
from aheadsums.orders import (exchange, exchange_at, is_exchange, is_exchange_at, is_free_at, is_order_free,
                              mean_of_orders)
from aheadsums.ratios import Ratio
from aheadsums.tables import Table, exchanged
from aheadsums.tallies import Tally, tally_plus, tally_product, tally_times, tally_worth
from tests.helping import (Case, form_at, letters_of, no_counts, no_forms, no_tables, no_tallies, odd_values, some_form,
                           some_table, some_tally, some_term, some_word, words_to, worth_of)

ALONE = Tally(1, [(((1,), (0,)), 2)])
BOTH = Tally(1, [(((0,), (1,)), 1), (((1,), (0,)), 1)])
AHEAD = Form(1, [((((0,),), (0,), ()), 1)])
OTHERS = Form(1, [((((0,),), (0,), ()), 1), (((), (0,), ((0,),)), 1)])


def in_all_orders(table):
    """The tables of the rows in all their orders."""
    return [Table(table.columns, rows) for rows in permutations(table.rows())]


def apart_table(chance, columns, height):
    """A table of which no two rows, and hardly two worths, are alike."""
    return Table(columns, [[chance.randrange(2, 10 ** 4) for _ in range(columns)] for _ in range(height)])


def free_tally(chance, columns, longest):
    """A sum of products of plain totals."""
    whole = Tally(columns, [((), chance.randrange(3))])
    for _ in range(chance.randrange(1, 3)):
        product = Tally(columns, [((), chance.choice([1, -2, Ratio(1, 3)]))])
        for _ in range(chance.randrange(1, longest + 1)):
            product = tally_product(product, Tally(columns, [(some_word(chance, columns, 1), 1)]))
        whole = tally_plus(whole, product)
    return whole


def plain_form(columns, letter):
    """The sum of what the letter comes to at all other rows."""
    bare = (0,) * columns
    return Form(columns, [(((letter,), bare, ()), 1), (((), bare, (letter,)), 1)])


def free_form(chance, columns, longest):
    """A sum of products of what the row comes to, and of sums over all other rows."""
    whole = Form(columns, [])
    for _ in range(chance.randrange(1, 3)):
        product = Form(columns, [(((), some_word(chance, columns, 1)[0], ()), chance.choice([1, -2, Ratio(1, 3)]))])
        for _ in range(chance.randrange(longest)):
            product = form_product(product, plain_form(columns, some_word(chance, columns, 1)[0]))
        whole = form_plus(whole, product)
    return whole


def place_then(position, at):
    """Where the row at the position stands with the rows at and at + 1 exchanged."""
    return {at: at + 1, at + 1: at}.get(position, position)


class OrderFreeTest(Case):
    def test_sums_of_products_of_plain_totals_are(self):
        chance = random.Random(61)
        for turn in range(60):
            tally = free_tally(chance, turn % 4, 4)
            self.assertIs(is_order_free(tally), True)
            self.assertIs(is_order_free(tally=tally), True)
            self.assertIsNone(exchange(tally))
            table = some_table(chance, tally.columns, turn % 5)
            self.assertEqual(len({worth_of(tally, one) for one in in_all_orders(table)}), 1)

    def test_against_all_orders(self):
        chance = random.Random(62)
        for turn in range(200):
            tally = some_tally(chance, turn % 4, 3)
            if turn % 3 == 0:
                tally = tally_plus(tally, free_tally(chance, turn % 4, 3))
            table = apart_table(chance, tally.columns, 4)
            worths = {worth_of(tally, one) for one in in_all_orders(table)}
            self.assertIs(is_order_free(tally), len(worths) == 1)

    def test_each_lot(self):
        words = [((0,), (1,), (1,)), ((1,), (0,), (1,)), ((1,), (1,), (0,))]
        self.assertIs(is_order_free(Tally(1, [(word, 2) for word in words])), True)
        for word in words:
            self.assertIs(is_order_free(Tally(1, [(each, 1 if each == word else 2) for each in words])), False)
            self.assertIs(is_order_free(Tally(1, [(each, 2) for each in words if each != word])), False)
        for columns in range(4):
            same = Tally(columns, [(((1,) * columns,) * many, many + 1) for many in range(9)])
            self.assertIs(is_order_free(same), True)
            self.assertIs(is_order_free(Tally(columns, [])), True)
        self.assertIs(is_order_free(BOTH), True)
        self.assertIs(is_order_free(ALONE), False)

    def test_many_words_of_a_lot(self):
        # A lot of eight unlike letters has far more words than a tally.
        self.assertIs(is_order_free(Tally(1, [(tuple((power,) for power in range(8)), 1)])), False)
        words = list(permutations([(0,), (1,), (2,), (3,), (4,)]))
        self.assertIs(is_order_free(Tally(1, [(word, 1) for word in words])), True)
        self.assertIs(is_order_free(Tally(1, [(word, 1) for word in words[1:]])), False)

    def test_errors(self):
        for function in (is_order_free, exchange, mean_of_orders):
            self.refuses_each(function, {"tally": ALONE}, {"tally": (InvalidTally, no_tallies())})


class ExchangeTest(Case):
    def least_barred(self, tally):
        """The least number of letters of a lot whose words have unlike factors."""
        factors = dict((word, factor) for word, factor in tally.parts())
        barred = []
        for word, factor in factors.items():
            if any(other not in factors or factors[other] != factor for other in permutations(word)):
                barred.append(len(word))
        return min(barred, default=None)

    def check(self, tally):
        found = exchange(tally)
        least = self.least_barred(tally)
        if least is None:
            self.assertIsNone(found)
            return
        self.assertIs(type(found), tuple)
        table, at = found
        self.same([table.columns, table.height], [tally.columns, least])
        self.assertNotEqual(worth_of(tally, table), worth_of(tally, exchanged(table, at)))
        self.assertIs(is_exchange(tally, found), True)
        self.assertEqual(exchange(tally=tally), found)

    def test_tables_of_just_as_many_rows(self):
        chance = random.Random(63)
        for turn in range(250):
            tally = some_tally(chance, turn % 4, 4)
            if turn % 2:
                tally = tally_plus(tally, free_tally(chance, turn % 4, 3))
            self.check(tally)

    def test_fewer_rows_never_show_it(self):
        chance = random.Random(64)
        for turn in range(100):
            tally = tally_plus(some_tally(chance, turn % 4, 4), free_tally(chance, turn % 4, 2))
            least = self.least_barred(tally)
            for height in range(2, 5 if least is None else least):
                table = apart_table(chance, tally.columns, height)
                self.assertEqual(len({tally_worth(tally, one).top for one in in_all_orders(table)}), 1)

    def test_each_place(self):
        for at in range(7):
            word = ((0,),) * at + ((1,),) + ((0,),) * (7 - at)
            words = [((0,),) * place + ((1,),) + ((0,),) * (7 - place) for place in range(8)]
            self.check(Tally(1, [(word, 1)]))
            self.check(Tally(1, [(each, 1 if words.index(each) <= at else 2) for each in words]))

    def test_long_ones(self):
        chance = random.Random(65)
        for _ in range(5):
            self.check(Tally(3, [(some_word(chance, 3, chance.randrange(5, 7), 8), chance.randrange(1, 10 ** 6))
                                 for _ in range(20)]))

    def test_shorter_words_may_hide_nothing(self):
        self.check(tally_plus(tally_plus(BOTH, ALONE), Tally(1, [(((1,),) * 3, 7), (((2,),), 5), ((), 1)])))

    def test_whatever_value(self):
        table = Table(1, [[1], [2], [2]])
        self.assertIs(is_exchange(ALONE, (table, 0)), True)
        self.assertIs(is_exchange(ALONE, (table, 1)), False)
        values = odd_values() + [0, Ratio(1), table, (), [], (table,), (table, 0, 0), [table, 0], (0, table)]
        values += [(table, value) for value in no_counts() + [2, 3, 10 ** 30, table]]
        values += [(value, 0) for value in no_tables() + [ALONE]]
        values += [(Table(columns, [[at] * columns for at in range(3)]), 0) for columns in (0, 2, 3)]
        values += [(Table(1, []), 0), (Table(1, [[1]]), 0), ([[1], [2]], 0)]
        for value in values:
            self.assertIs(is_exchange(ALONE, value), False)

    def test_of_whatever_height(self):
        chance = random.Random(66)
        for turn in range(150):
            tally = some_tally(chance, turn % 4, 3)
            table = some_table(chance, tally.columns, turn % 7)
            for at in range(8):
                wanted = at < table.height - 1 and worth_of(tally, table) != worth_of(tally, exchanged(table, at))
                self.assertIs(is_exchange(tally, (table, at)), wanted)
                self.assertIs(is_exchange(value=(table, at), tally=tally), wanted)
        self.assertIs(is_exchange(ALONE, (Table(1, [[0]] * 39 + [[1]]), 38)), True)

    def test_errors(self):
        self.refuses_each(is_exchange, {"tally": ALONE, "value": None}, {"tally": (InvalidTally, no_tallies())})


class MeanTest(Case):
    def test_the_mean_over_all_orders(self):
        chance = random.Random(67)
        for turn in range(80):
            tally = some_tally(chance, turn % 4, 3)
            found = mean_of_orders(tally)
            self.assertIsInstance(found, Tally)
            self.same(found.columns, tally.columns)
            for height in (0, 2, 4):
                table = some_table(chance, tally.columns, height)
                worths = [worth_of(tally, one) for one in in_all_orders(table)]
                self.worth(tally_worth(found, table), sum(worths, Fraction(0)) / len(worths))
            self.assertIs(is_order_free(found), True)
            self.assertEqual(mean_of_orders(found), found)
            self.assertEqual(mean_of_orders(tally=tally), found)

    def test_order_free_tallies_stay(self):
        chance = random.Random(68)
        for turn in range(30):
            tally = free_tally(chance, turn % 4, 4)
            self.assertEqual(mean_of_orders(tally), tally)

    def test_factors(self):
        self.assertEqual(mean_of_orders(ALONE), BOTH)
        three = Tally(1, [(((0,), (1,), (2,)), 5), (((2,), (1,), (0,)), -1), (((1,), (1,)), 7), ((), 3)])
        wanted = [((), Ratio(3))] + [(word, Ratio(2, 3)) for word in sorted(permutations([(0,), (1,), (2,)]))]
        self.same(mean_of_orders(three).parts(), sorted(wanted + [(((1,), (1,)), Ratio(7))], key=lambda part: part[0]))
        self.assertEqual(mean_of_orders(Tally(1, [(((0,), (1,)), 1), (((1,), (0,)), -1)])), Tally(1, []))
        self.assertEqual(mean_of_orders(Tally(2, [])), Tally(2, []))

    def test_at_most_400_terms(self):
        five = tuple((power,) for power in range(5))
        # 120 words of one lot, three times, and 30 more of another, and 10 of a further one.
        lots = [five, five[:4] + ((7,),), five[:3] + ((7,), (8,))]
        parts = [(lot, 1) for lot in lots]
        self.same(len(mean_of_orders(Tally(1, parts)).parts()), 360)
        parts += [(((0,), (0,), (1,), (1,), (2,)), 1), (((0,), (0,), (0,), (1,), (1,)), 2)]
        kept = Tally(1, parts)
        self.same(len(mean_of_orders(kept).parts()), 400)
        self.too_many("terms", 400, mean_of_orders, tally_plus(kept, Tally(1, [((), 1)])))
        # A lot whose factors come to 0 together has no words.
        eight = tuple((power,) for power in range(8))
        less = Tally(1, [(eight, 1), (eight[::-1], -1)])
        self.assertEqual(mean_of_orders(tally_plus(kept, less)), mean_of_orders(kept))
        self.too_many("terms", 400, mean_of_orders, Tally(1, [(eight, 1)]))
        full = Tally(3, [((letter,), 1) for letter in letters_of(3, range(8))[:400]])
        self.assertEqual(mean_of_orders(full), full)


class FreeAtTest(Case):
    def test_sums_of_products_over_other_rows_are(self):
        chance = random.Random(69)
        for turn in range(60):
            form = free_form(chance, turn % 4, 4)
            self.assertIs(is_free_at(form), True)
            self.assertIs(is_free_at(form=form), True)
            self.assertIsNone(exchange_at(form))

    def test_against_all_orders(self):
        chance = random.Random(70)
        for turn in range(150):
            form = some_form(chance, turn % 4, 3)
            if turn % 3 == 0:
                form = form_plus(form, free_form(chance, turn % 4, 3))
            table = apart_table(chance, form.columns, 4)
            free = True
            for position in range(4):
                worths = []
                for order in permutations(range(4)):
                    rows = [table.rows()[at] for at in order]
                    worths.append(form_at(form, Table(form.columns, rows), order.index(position)))
                free = free and len(set(worths)) == 1
            self.assertIs(is_free_at(form), free)

    def test_each_own_letter_with_each_lot(self):
        terms = [(word[:at], (5,), word[at:]) for word in (((0,), (1,)), ((1,), (0,))) for at in range(3)]
        whole = Form(1, [(term, 3) for term in terms])
        self.assertIs(is_free_at(whole), True)
        for term in terms:
            self.assertIs(is_free_at(form_plus(whole, Form(1, [(term, -3)]))), False)
            self.assertIs(is_free_at(form_plus(whole, Form(1, [(term, 1)]))), False)
            self.assertIs(is_free_at(form_plus(whole, Form(1, [((term[0], (4,), term[2]), 3)]))), False)
        for columns in range(4):
            self.assertIs(is_free_at(Form(columns, [])), True)
            self.assertIs(is_free_at(Form(columns, [(((), (1,) * columns, ()), 5)])), True)
        self.assertIs(is_free_at(OTHERS), True)
        self.assertIs(is_free_at(AHEAD), False)

    def test_errors(self):
        for function in (is_free_at, exchange_at):
            self.refuses_each(function, {"form": AHEAD}, {"form": (InvalidForm, no_forms())})


class ExchangeAtTest(Case):
    def least_barred(self, form):
        """The least number of letters of terms with unlike factors, straight from the definition."""
        factors = dict(form.parts())
        barred = []
        for (left, own, right), factor in factors.items():
            for word in permutations(left + right):
                for at in range(len(word) + 1):
                    term = (word[:at], own, word[at:])
                    if term not in factors or factors[term] != factor:
                        barred.append(len(word) + 1)
        return min(barred, default=None)

    def check(self, form):
        found = exchange_at(form)
        least = self.least_barred(form)
        if least is None:
            self.assertIsNone(found)
            return
        self.assertIs(type(found), tuple)
        table, position, at = found
        self.same([table.columns, table.height], [form.columns, least])
        self.assertNotEqual(form_at(form, table, position),
                            form_at(form, exchanged(table, at), place_then(position, at)))
        self.assertIs(is_exchange_at(form, found), True)
        self.assertEqual(exchange_at(form=form), found)

    def test_tables_of_just_as_many_rows(self):
        chance = random.Random(71)
        for turn in range(250):
            form = some_form(chance, turn % 4, 4)
            if turn % 2:
                form = form_plus(form, free_form(chance, turn % 4, 3))
            self.check(form)

    def test_fewer_rows_never_show_it(self):
        chance = random.Random(72)
        for turn in range(60):
            form = form_plus(some_form(chance, turn % 4, 4), free_form(chance, turn % 4, 2))
            least = self.least_barred(form)
            for height in range(2, 4 if least is None else least):
                table = apart_table(chance, form.columns, height)
                for position in range(height):
                    for at in range(height - 1):
                        self.assertIs(is_exchange_at(form, (table, position, at)), False)

    def test_each_way_not_to_be_free(self):
        terms = [(word[:at], (0,), word[at:]) for word in words_to(1, 3, 1) if sorted(word) == [(0,), (0,), (1,)]
                 for at in range(4)]
        self.assertEqual(len(terms), 12)
        for term in terms:
            self.check(Form(1, [(each, 1 if each == term else 2) for each in terms]))
            self.check(Form(1, [(term, -1)]))

    def test_only_the_row_itself_moves(self):
        # The rows ahead are counted: just an exchange with the row itself shows it.
        table, position, at = exchange_at(AHEAD)
        self.assertIn(position, (at, at + 1))
        for place in range(3):
            for at in range(2):
                self.assertIs(is_exchange_at(AHEAD, (Table(1, [[5]] * 3), place, at)), place in (at, at + 1))

    def test_long_ones(self):
        chance = random.Random(73)
        for _ in range(4):
            self.check(Form(3, [(some_term(chance, 3, chance.randrange(4, 7), 8), chance.randrange(1, 10 ** 6))
                                for _ in range(20)]))

    def test_of_whatever_height(self):
        chance = random.Random(74)
        for turn in range(80):
            form = some_form(chance, turn % 4, 3)
            table = some_table(chance, form.columns, turn % 5)
            for position in range(6):
                for at in range(6):
                    wanted = (position < table.height and at < table.height - 1 and form_at(form, table, position)
                              != form_at(form, exchanged(table, at), place_then(position, at)))
                    self.assertIs(is_exchange_at(form, (table, position, at)), wanted)
                    self.assertIs(is_exchange_at(value=(table, position, at), form=form), wanted)
        self.assertIs(is_exchange_at(AHEAD, (Table(1, [[0]] * 40), 39, 38)), True)

    def test_whatever_value(self):
        table = Table(1, [[1], [2], [3]])
        self.assertIs(is_exchange_at(AHEAD, (table, 1, 1)), True)
        values = odd_values() + [0, Ratio(1), table, (), [], (table,), (table, 1), [table, 1, 1], (table, 1, 1, 1),
                                 (1, table, 1), (1, 1, table), ([[1], [2]], 0, 0)]
        values += [(table, value, 1) for value in no_counts() + [3, 4, 10 ** 30, table]]
        values += [(table, 1, value) for value in no_counts() + [2, 3, 10 ** 30, table]]
        values += [(value, 0, 0) for value in no_tables() + [AHEAD]]
        values += [(Table(columns, [[at] * columns for at in range(3)]), 0, 0) for columns in (0, 2, 3)]
        values += [(Table(1, []), 0, 0), (Table(1, [[1]]), 0, 0)]
        for value in values:
            self.assertIs(is_exchange_at(AHEAD, value), False)

    def test_errors(self):
        self.refuses_each(is_exchange_at, {"form": AHEAD, "value": None}, {"form": (InvalidForm, no_forms())})

    def test_what_is_passed_stays(self):
        for function, thing in ((exchange, ALONE), (mean_of_orders, ALONE), (exchange_at, AHEAD)):
            parts = thing.parts()
            function(thing)
            self.same(thing.parts(), parts)
        self.assertEqual(tally_times(mean_of_orders(ALONE), 2), tally_times(BOTH, 2))


if __name__ == "__main__":
    unittest.main()
