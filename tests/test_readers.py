"""Readers, and alike ones: points 71 and 72 of the document."""

import random
import unittest
from fractions import Fraction
from itertools import product

from aheadsums.errors import (InvalidColumns, InvalidLast, InvalidReader, InvalidStart, InvalidSteps, InvalidTable,
                              UnlikeColumns)
from aheadsums.forms import Form, form_worths
from aheadsums.ratios import Ratio
from aheadsums.readers import Reader, are_alike, is_reader_parting, read, reader_parting
from aheadsums.tables import Table
from tests.helping import (Case, LikeAll, fraction, fractions, letter_at, letters_of, no_columns, no_counts, no_letters,
                           no_numbers, no_readers, no_tables, odd_values, rows_of, some_table)

ADDING = Reader(1, [1, 0], [((0,), [[1, 0], [0, 1]]), ((1,), [[0, 1], [0, 0]])], [((0,), [0, 1])])
ONCE = Reader(1, [1], [], [((0,), [1])])
NO_READERS = no_readers()


def results_by_rule(reader, table):
    """The results, by the plain rule, with Fractions."""
    cells, told = fractions(reader.start()), []
    steps = [(letter, [fractions(row) for row in rows]) for letter, rows in reader.steps()]
    last = [(letter, fractions(row)) for letter, row in reader.last()]
    for row in rows_of(table):
        told.append(sum([letter_at(letter, row) * cell * number for letter, numbers in last
                         for cell, number in zip(cells, numbers)], Fraction(0)))
        cells = [sum([letter_at(letter, row) * cells[i] * rows[i][j] for letter, rows in steps
                      for i in range(len(cells))], Fraction(0)) for j in range(len(cells))]
    return told


def number_of(reader, word):
    """The number that a reader tells for a row of letters, by the words of point 72."""
    steps, last = dict(reader.steps()), dict(reader.last())
    cells = fractions(reader.start())
    for letter in word[:-1]:
        if letter not in steps:
            return Fraction(0)
        rows = [fractions(row) for row in steps[letter]]
        cells = [sum([cells[i] * rows[i][j] for i in range(len(cells))], Fraction(0)) for j in range(len(cells))]
    if word[-1] not in last:
        return Fraction(0)
    return sum([cell * fraction(number) for cell, number in zip(cells, last[word[-1]])], Fraction(0))


def alike_by_words(reader, other):
    """Whether two readers tell like numbers for each row of letters of at most as many letters as they have cells."""
    letters = sorted(set(letter for one in (reader, other) for letter, _ in one.steps() + one.last()))
    most = max(1, reader.cells + other.cells)
    return all(number_of(reader, word) == number_of(other, word)
               for many in range(1, most + 1) for word in product(letters, repeat=many))


def some_reader(chance, columns, cells, numbers=(0, 0, 1, -1, 2, Ratio(1, 2)), letters=2):
    def some_letters():
        every = letters_of(columns, range(2))
        return chance.sample(every, min(len(every), chance.randrange(letters + 1)))

    def some_numbers():
        return [chance.choice(numbers) for _ in range(cells)]

    steps = [(letter, [some_numbers() for _ in range(cells)]) for letter in some_letters()]
    return Reader(columns, some_numbers(), steps, [(letter, some_numbers()) for letter in some_letters()])


def with_cells_led(reader, lists, back):
    """The reader whose cells are those of this one led by lists; `back` leads them back again."""
    def led(numbers, rows):
        return [Ratio.total([number * row[j] for number, row in zip(numbers, rows)]) for j in range(len(rows[0]))]

    def put_together(first, second):
        return [led(row, second) for row in first]

    steps = [(letter, put_together(put_together(back, rows), lists)) for letter, rows in reader.steps()]
    last = [(letter, [Ratio.total([one * two for one, two in zip(row, numbers)]) for row in back])
            for letter, numbers in reader.last()]
    return Reader(reader.columns, led(reader.start(), lists), steps, last)


def with_idle_cell(reader, numbers):
    """The reader with a cell more, which takes what the others hold times these numbers, and tells nothing."""
    steps = [(letter, [row + [numbers[0]] for row in rows] + [[0] * reader.cells + [numbers[1]]])
             for letter, rows in reader.steps()]
    return Reader(reader.columns, reader.start() + [numbers[2]], steps,
                  [(letter, row + [0]) for letter, row in reader.last()])


class MadeTest(Case):
    def test_parts_as_they_are_told(self):
        steps = [((2, 0), [[1, Ratio(1, 2)], [0, 0]]), ((0, 1), [[0, 0], [0, -1]]), ((0, 0), [[0, 0], [Ratio(0), 0]])]
        last = [((1, 1), [0, 0]), ((1, 0), [0, 3]), ((0, 5), [Ratio(4, 6), 0])]
        reader = self.leaves(Reader, 2, [1, Ratio(-1, 3)], steps, last)
        self.same([reader.columns, reader.cells], [2, 2])
        self.same(reader.start(), [Ratio(1), Ratio(-1, 3)])
        self.same(reader.steps(), [((0, 1), [[Ratio(0), Ratio(0)], [Ratio(0), Ratio(-1)]]),
                                   ((2, 0), [[Ratio(1), Ratio(1, 2)], [Ratio(0), Ratio(0)]])])
        self.same(reader.last(), [((0, 5), [Ratio(2, 3), Ratio(0)]), ((1, 0), [Ratio(0), Ratio(3)])])
        self.assertEqual(Reader(last=tuple(last[::-1]), start=(1, Ratio(-1, 3)), steps=tuple(
            (letter, tuple(tuple(row) for row in rows)) for letter, rows in steps), columns=2), reader)

    def test_what_was_passed_is_copied(self):
        start, steps, last = [1], [((0,), [[1]])], [((0,), [1])]
        reader = Reader(1, start, steps, last)
        start[0], steps[0][1][0][0], last[0][1][0] = 2, 2, 2
        steps.pop()
        last.pop()
        self.same([reader.start(), reader.steps(), reader.last()],
                  [[Ratio(1)], [((0,), [[Ratio(1)]])], [((0,), [Ratio(1)])]])

    def test_what_is_told_is_new(self):
        for function in (ADDING.start, ADDING.steps, ADDING.last):
            self.is_new(function)

    def test_it_never_changes(self):
        for name in ("columns", "cells"):
            with self.assertRaises(AttributeError):
                setattr(ADDING, name, 1)

    def test_cells(self):
        for cells in range(13):
            steps, last = [((1,), [[1] * cells] * cells)], [((0,), [1] * cells)]
            reader = Reader(1, [1] * cells, steps, last)
            self.same([reader.cells, len(reader.start())], [cells, cells])
            self.same([len(reader.steps()), len(reader.last())], [1, 1] if cells else [0, 0])
        for cells in (13, 14, 200):
            self.refuses(InvalidStart, [0] * cells, Reader, 1, [0] * cells, [], [])

    def test_at_most_40_letters(self):
        letters = letters_of(2, range(7))
        for many in (40, 41, 49):
            steps, last = [(letter, [[1]]) for letter in letters[:many]], [(letter, [0]) for letter in letters[:many]]
            if many == 40:
                self.same(len(Reader(2, [1], steps, last).steps()), 40)
            else:
                self.refuses(InvalidSteps, steps, Reader, 2, [1], steps, last)
                self.refuses(InvalidLast, last, Reader, 2, [1], [], last)

    def test_no_letter_twice(self):
        for lists in ([[1]], [[0]]):
            steps = [((0,), [[1]]), ((1,), [[1]]), ((0,), lists)]
            self.refuses(InvalidSteps, steps, Reader, 1, [1], steps, [])
            last = [(letter, rows[0]) for letter, rows in steps]
            self.refuses(InvalidLast, last, Reader, 1, [1], [], last)

    def test_wrong_letters(self):
        for letter in no_letters():
            for steps in ([(letter, [[1]])], [((1,), [[1]]), (letter, [[0]])]):
                self.refuses(InvalidSteps, steps, Reader, 1, [1], steps, [])
                last = [(one, rows[0]) for one, rows in steps]
                self.refuses(InvalidLast, last, Reader, 1, [1], [], last)
        for columns in range(4):
            for others in range(4):
                steps = [((1,) * others, [[1]])]
                if columns != others:
                    self.refuses(InvalidSteps, steps, Reader, columns, [1], steps, [])

    def test_wrong_lists(self):
        for rows in odd_values() + [0, Ratio(1), [], (), [1], [[]], [[1]], [[1, 1]], [[1, 1], [1]], [[1, 1]] * 3,
                                    [[1, 1, 1]] * 2, [[1, 1], 1], [1, 1, 1, 1], [[[1], [1]], [[1], [1]]]]:
            self.refuses(InvalidSteps, [((1,), rows)], Reader, 1, [1, 1], [((1,), rows)], [])
        for value in no_numbers():
            for rows in ([[value, 0], [0, 0]], [[0, 0], [0, value]]):
                self.refuses(InvalidSteps, [((1,), rows)], Reader, 1, [1, 1], [((1,), rows)], [])
            self.refuses(InvalidLast, [((1,), [0, value])], Reader, 1, [1, 1], [], [((1,), [0, value])])
        for row in odd_values() + [0, Ratio(1), [], [1], [1, 1, 1], [[1, 1]]]:
            self.refuses(InvalidLast, [((1,), row)], Reader, 1, [1, 1], [], [((1,), row)])

    def test_wrong_parts(self):
        for part in odd_values() + [0, Ratio(1), (), ((1,),), ((1,), [[1]], 1), [(1,), [[1]]], (1,), ([[1]], (1,))]:
            for steps in ([part], [((0,), [[1]]), part]):
                self.refuses(InvalidSteps, steps, Reader, 1, [1], steps, [])
        for part in odd_values() + [0, Ratio(1), (), ((1,),), ((1,), [1], 1), [(1,), [1]], (1,), ([1], (1,))]:
            self.refuses(InvalidLast, [part], Reader, 1, [1], [], [part])

    def test_errors(self):
        numbers = odd_values() + [0, Ratio(1), [None], [1, True], [[1]], {1: 1}]
        self.refuses_each(Reader, {"columns": 1, "start": [1], "steps": [((1,), [[1]])], "last": [((1,), [1])]},
                          {"columns": (InvalidColumns, no_columns()),
                           "start": (InvalidStart, numbers + [[value] for value in no_numbers()]),
                           "steps": (InvalidSteps, odd_values() + [0, Ratio(1), [[]], {(1,): [[1]]}]),
                           "last": (InvalidLast, odd_values() + [0, Ratio(1), [[]], {(1,): [1]}])})


class EqualTest(Case):
    def test_as_they_are_told(self):
        steps, last = [((0,), [[1]]), ((1,), [[2]])], [((0,), [3])]
        reader = Reader(1, [1], steps, last)
        self.assertIs(reader == Reader(1, (Ratio(1),), steps[::-1] + [((5,), [[0]])], last + [((4,), [0])]), True)
        for other in (Reader(1, [2], steps, last), Reader(1, [1], steps[:1], last), Reader(1, [1], steps, []),
                      Reader(1, [1], [((0,), [[1]]), ((1,), [[3]])], last), Reader(1, [1], steps, [((0,), [4])]),
                      Reader(1, [1], [((0,), [[1]]), ((2,), [[2]])], last), Reader(1, [], [], [])):
            self.assertIs(reader == other, False)
            self.assertIs(reader != other, True)

    def test_columns(self):
        for columns in range(4):
            for others in range(4):
                self.assertIs(Reader(columns, [1], [], []) == Reader(others, [1], [], []), columns == others)

    def test_nothing_else_is_equal(self):
        for value in NO_READERS:
            self.assertIs(ADDING == value, False)
            self.assertIs(ADDING != value, True)
            if not isinstance(value, LikeAll) and type(value).__name__ != "Unlikeable":
                self.assertIs(value == ADDING, False)


class ReadTest(Case):
    def test_by_the_plain_rule(self):
        chance = random.Random(71)
        for turn in range(150):
            reader = some_reader(chance, turn % 4, turn % 5)
            table = some_table(chance, turn % 4, turn % 6)
            self.worths(read(reader, table), results_by_rule(reader, table))
            self.worths(read(table=table, reader=reader), results_by_rule(reader, table))

    def test_what_was_so_far(self):
        form = Form(1, [((((1,),), (0,), ()), 1)])
        table = Table(1, [[2], [Ratio(1, 2)], [3], [-1]])
        self.assertEqual(read(ADDING, table), form_worths(form, table))
        ranks = Reader(0, [1, 0, 0], [((), [[1, 1, 0], [0, 1, 1], [0, 0, 1]])], [((), [0, 0, 1])])
        self.worths(read(ranks, Table(0, [[]] * 40)), [at * (at - 1) // 2 for at in range(40)])

    def test_the_result_is_told_ahead_of_the_step(self):
        reader = Reader(1, [1], [((1,), [[1]])], [((0,), [1]), ((2,), [1])])
        self.worths(read(reader, Table(1, [[2], [3], [5]])), [5, 20, 6 * 26])

    def test_lists_lead_from_the_row_to_the_place(self):
        reader = Reader(0, [1, 0], [((), [[0, 5], [0, 0]])], [((), [10, 1])])
        self.worths(read(reader, Table(0, [[]] * 3)), [10, 5, 0])

    def test_letters_that_are_not_told(self):
        # Without the bare letter's lists nothing is kept where all numbers are 0.
        self.worths(read(Reader(1, [1], [((1,), [[1]])], [((0,), [1])]), Table(1, [[0], [1], [1]])), [1, 0, 0])
        self.worths(read(Reader(1, [1], [], [((1,), [1])]), Table(1, [[3], [4]])), [3, 0])

    def test_without_cells_or_rows(self):
        self.worths(read(Reader(0, [], [], []), Table(0, [[], []])), [0, 0])
        self.worths(read(Reader(1, [], [((1,), [])], [((1,), [])]), Table(1, [[1]])), [0])
        self.same(read(ADDING, Table(1, [])), [])

    def test_12_cells(self):
        chance = random.Random(72)
        letters = letters_of(2, range(6))
        steps = [(letter, [[chance.randrange(-2, 3) for _ in range(12)] for _ in range(12)]) for letter in letters]
        reader = Reader(2, [1] * 12, steps, [(letter, [chance.randrange(3) for _ in range(12)]) for letter in letters])
        table = Table(2, [[chance.randrange(-1, 2), chance.randrange(-1, 2)] for _ in range(12)])
        self.worths(read(reader, table), results_by_rule(reader, table))

    def test_what_is_told_is_new(self):
        self.is_new(read, ADDING, Table(1, [[1], [2]]))

    def test_errors(self):
        self.refuses_each(read, {"reader": ADDING, "table": Table(1, [[1]])},
                          {"reader": (InvalidReader, NO_READERS), "table": (InvalidTable, no_tables() + [ADDING])})
        for columns in range(4):
            for others in range(4):
                if columns != others:
                    self.raised(UnlikeColumns, read, Reader(columns, [], [], []), Table(others, []))


class AlikeTest(Case):
    def check(self, reader, other):
        """Whether they are alike, with a parting that is judged by the plain rule if they are not."""
        found, parted = are_alike(reader, other), reader_parting(reader, other)
        self.assertIs(are_alike(other=reader, reader=other), found)
        self.assertEqual(reader_parting(other=other, reader=reader), parted)
        if found:
            self.assertIsNone(parted)
            return found
        self.assertIs(type(parted), tuple)
        table, position = parted
        self.same(table.columns, reader.columns)
        self.assertNotEqual(results_by_rule(reader, table)[position], results_by_rule(other, table)[position])
        self.assertIs(is_reader_parting(reader, other, parted), True)
        return found

    def test_against_rows_of_letters(self):
        chance = random.Random(73)
        many = [0, 0]
        for turn in range(300):
            numbers = chance.choice([(0, 1), (0, 0, 0, 1), (0, 1, -1, Ratio(1, 2))])
            reader, other = [some_reader(chance, turn % 3, chance.randrange(3), numbers, 2) for _ in range(2)]
            found = self.check(reader, other)
            self.assertIs(found, alike_by_words(reader, other))
            many[found] += 1
        self.assertGreater(min(many), 50)

    def test_with_other_cells(self):
        chance = random.Random(74)
        lists, back = [[1, 2, 0], [0, 1, 1], [0, 0, 2]], [[1, -2, 1], [0, 1, Ratio(-1, 2)], [0, 0, Ratio(1, 2)]]
        for turn in range(60):
            reader = some_reader(chance, turn % 4, 3)
            other = with_cells_led(reader, lists, back)
            self.assertIs(self.check(reader, other), True)
            self.assertIs(self.check(with_idle_cell(other, [3, Ratio(1, 3), -5]), reader), True)
            table = some_table(chance, turn % 4, 4)
            self.assertEqual(results_by_rule(reader, table), results_by_rule(other, table))

    def test_cells_that_tell_late(self):
        def waiting(cells, number):
            """A reader of which just the row behind so many others has a result."""
            lists = [[1 if j == i + 1 else 0 for j in range(cells)] for i in range(cells)]
            return Reader(1, [1] + [0] * (cells - 1), [((0,), lists)], [((1,), [0] * (cells - 1) + [number])])

        for cells in range(1, 13):
            self.assertIs(self.check(waiting(cells, 1), waiting(cells, 1)), True)
            self.assertIs(self.check(waiting(cells, 1), waiting(cells, 2)), False)
            table, position = reader_parting(waiting(cells, 1), Reader(1, [], [], []))
            self.assertGreaterEqual(position, cells - 1)
            self.assertIs(self.check(waiting(cells, 1), Reader(1, [], [], [])), False)

    def test_as_many_rows_as_both_have_cells(self):
        def turning(cells, start):
            """A reader that tells the start's numbers one by one, over and over."""
            lists = [[1 if (j + 1) % cells == i else 0 for j in range(cells)] for i in range(cells)]
            return Reader(0, start, [((), lists)], [((), [1] + [0] * (cells - 1))])

        # One tells 1 at the rows 10, 21, 32 .., the other at 10, 22, 34 ..: they part at the row 21, not ahead of it.
        eleven, twelve = turning(11, [0] * 10 + [1]), turning(12, [0] * 10 + [1, 0])
        self.assertIs(self.check(eleven, twelve), False)
        self.assertGreaterEqual(reader_parting(eleven, twelve)[1], 21)
        self.assertIs(is_reader_parting(eleven, twelve, (Table(0, [[]] * 22), 21)), True)
        self.assertIs(self.check(turning(3, [1, 2, 3]), turning(6, [1, 2, 3] * 2)), True)
        self.assertIs(self.check(turning(3, [1, 2, 3]), turning(6, [1, 2, 3, 1, 2, 4])), False)

    def test_many_letters(self):
        chance = random.Random(75)
        letters = letters_of(3, range(4))[:40]
        steps = [(letter, [[chance.randrange(-2, 3) for _ in range(12)] for _ in range(12)]) for letter in letters]
        last = [(letter, [chance.randrange(-2, 3) for _ in range(12)]) for letter in letters]
        reader = Reader(3, [1] + [0] * 11, steps, last)
        turned_steps = [(letter, [row[::-1] for row in rows[::-1]]) for letter, rows in steps]
        turned_about = Reader(3, [0] * 11 + [1], turned_steps, [(letter, row[::-1]) for letter, row in last])
        self.assertIs(self.check(reader, turned_about), True)
        self.assertIs(self.check(reader, Reader(3, [1] + [0] * 11, steps, last[:-1])), False)
        self.assertIs(self.check(reader, Reader(3, [1] + [0] * 11, steps[1:], last)), False)

    def test_fractions_of_unlike_bottoms(self):
        reader = Reader(1, [Ratio(1, 7), Ratio(2, 3)], [((0,), [[Ratio(1, 5), 0], [Ratio(3, 11), 1]]),
                                                        ((1,), [[0, Ratio(1, 13)], [0, 0]])],
                        [((0,), [Ratio(1, 2), 1])])
        other = Reader(1, [Ratio(1, 7), Ratio(4, 3)], [((0,), [[Ratio(1, 5), 0], [Ratio(3, 22), 1]]),
                                                        ((1,), [[0, Ratio(2, 13)], [0, 0]])],
                       [((0,), [Ratio(1, 2), Ratio(1, 2)])])
        self.assertIs(self.check(reader, other), True)
        self.assertIs(self.check(reader, Reader(1, reader.start(), reader.steps(), other.last())), False)

    def test_letters_that_come_to_0_together(self):
        # At some rows the steps of these letters take each other away.
        steps = [((0,), [[0, 1], [0, 0]]), ((1,), [[0, -1], [0, 0]])]
        reader = Reader(1, [1, 0], steps, [((0,), [0, 1]), ((1,), [0, -1]), ((2,), [0, 3])])
        self.assertIs(self.check(reader, Reader(1, [], [], [])), False)
        high = Reader(1, [1, 0], [((8,), [[0, 1], [0, 0]]), ((1,), [[0, -1], [0, 0]])],
                      [((8,), [0, 1]), ((0,), [0, -1])])
        self.assertIs(self.check(high, Reader(1, [], [], [])), False)

    def test_cells_that_take_each_other_away(self):
        # Behind the row 1 the cells hold 3 and 5: at the row 1 again these come to 0 together.
        steps = [((1,), [[0, 3, 0], [0, 0, 0], [0, 0, 0]]), ((2,), [[0, 0, 5], [0, 0, 0], [0, 0, 0]])]
        last = [((1,), [0, 1, 0]), ((2,), [0, 0, Ratio(-3, 5)])]
        none = Reader(1, [], [], [])
        self.assertIs(self.check(Reader(1, [1, 0, 0], steps, last), none), False)
        steps = [(letter, [[0] * 4] + [[0] + row for row in rows]) for letter, rows in steps]
        steps.append(((0,), [[0, 1, 0, 0]] + [[0] * 4] * 3))
        last = [(letter, [0] + row) for letter, row in last]
        self.assertIs(self.check(Reader(1, [1, 0, 0, 0], steps, last), none), False)

    def test_nothing_alike(self):
        none = Reader(1, [], [], [])
        for other in (none, Reader(1, [0] * 12, [], [((0,), [1] * 12)]), Reader(1, [1], [((0,), [[1]])], []),
                      Reader(1, [1, 0], [((0,), [[1, 0], [0, 1]])], [((0,), [0, 1])])):
            self.assertIs(self.check(none, other), True)
            self.assertIs(self.check(other, none), True)
        self.assertIs(self.check(none, ONCE), False)
        self.assertIs(self.check(Reader(0, [], [], []), Reader(0, [1], [], [((), [1])])), False)

    def test_what_is_passed_stays(self):
        reader = Reader(1, ADDING.start(), ADDING.steps(), ADDING.last())
        self.check(ADDING, ONCE)
        self.assertEqual(reader, ADDING)

    def test_errors(self):
        for function in (are_alike, reader_parting):
            self.refuses_each(function, {"reader": ADDING, "other": ONCE},
                              {"reader": (InvalidReader, NO_READERS), "other": (InvalidReader, NO_READERS)})
            for columns in range(4):
                for others in range(4):
                    if columns != others:
                        self.raised(UnlikeColumns, function, Reader(columns, [], [], []), Reader(others, [], [], []))


class IsReaderPartingTest(Case):
    def test_by_the_results(self):
        chance = random.Random(76)
        for turn in range(120):
            reader, other = [some_reader(chance, turn % 4, chance.randrange(4)) for _ in range(2)]
            table = some_table(chance, turn % 4, turn % 5)
            unlike = [one != two for one, two in zip(results_by_rule(reader, table), results_by_rule(other, table))]
            for position in range(7):
                wanted = position < table.height and unlike[position]
                self.assertIs(is_reader_parting(reader, other, (table, position)), wanted)
                self.assertIs(is_reader_parting(value=(table, position), other=reader, reader=other), wanted)

    def test_of_whatever_height(self):
        self.assertIs(is_reader_parting(ADDING, ONCE, (Table(1, [[0]] * 39 + [[1]]), 39)), False)
        self.assertIs(is_reader_parting(ADDING, ONCE, (Table(1, [[0]] * 38 + [[1], [0]]), 39)), True)

    def test_of_any_value(self):
        table = Table(1, [[1], [5], [0]])
        self.assertIs(is_reader_parting(ADDING, ONCE, (table, 2)), True)
        values = odd_values() + [0, Ratio(1), table, (), [], (table,), (table, 2, 2), [table, 2], (2, table),
                                 ([[1], [5]], 1)]
        values += [(table, value) for value in no_counts() + [3, 4, 10 ** 30, table]]
        values += [(value, 0) for value in no_tables() + [ADDING]]
        values += [(Table(columns, [[1] * columns] * 3), 2) for columns in (0, 2, 3)] + [(Table(1, []), 0)]
        for value in values:
            self.assertIs(is_reader_parting(ADDING, ONCE, value), False)

    def test_errors(self):
        self.refuses_each(is_reader_parting, {"reader": ADDING, "other": ONCE, "value": None},
                          {"reader": (InvalidReader, NO_READERS), "other": (InvalidReader, NO_READERS)})
        self.raised(UnlikeColumns, is_reader_parting, ADDING, Reader(2, [], [], []), None)


if __name__ == "__main__":
    unittest.main()
