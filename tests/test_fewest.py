"""The fewest cells of readers, and papers of cells: points 73 and 74 of the document."""

import random
import unittest
from fractions import Fraction

from aheadsums.errors import InvalidForm, InvalidReader, NotForward, UnlikeColumns
from aheadsums.fewest import cells_paper, fewest_cells, is_cells_paper, lessened, reader_of, tells
from aheadsums.forms import Form, form_plus, form_times, form_worths
from aheadsums.ratios import Ratio
from aheadsums.readers import Reader, are_alike, read
from aheadsums.tables import Table
from tests.helping import (Case, determinant_of, form_at_rows, fraction, letters_of, no_forms, no_readers, no_tables,
                           odd_values, rank_of, rows_of, some_form, some_forward_form, some_table, some_word)

SO_FAR = Form(1, [((((1,),), (0,), ()), 1)])
SQUARE = Form(1, [((((1,), (1,)), (0,), ()), 2), ((((2,),), (0,), ()), 1)])
BEYOND = Form(1, [(((), (1,), ()), 1), (((), (0,), ((1,),)), 1)])
ADDING = Reader(1, [1, 0], [((0,), [[1, 0], [0, 1]]), ((1,), [[0, 1], [0, 0]])], [((0,), [0, 1])])
OF_FORMS = (reader_of, fewest_cells, cells_paper)


def chain(many):
    """A form whose quotients are many: the own letter behind so many letters less one, all of them unlike."""
    powers = range(1, many)
    return Form(1, [((tuple((power,) for power in powers), (0,), ()), 1)])


def fan(many):
    """A form with so many terms of one left letter, all letters being unlike."""
    letters = letters_of(3, range(4))
    return Form(3, [(((letters[at],), letters[at], ()), at + 1) for at in range(many)])


def independent_quotients(form):
    """How many quotients by words are independent, straight from the definition."""
    factors = {(left, own): fraction(factor) for (left, own, right), factor in form.parts()}
    words = sorted({left[:at] for left, own in factors for at in range(len(left) + 1)})
    ends = sorted({(left[at:], own) for left, own in factors for at in range(len(left) + 1)})
    return rank_of([[factors.get((word + end, own), Fraction(0)) for end, own in ends] for word in words])


def independent_words(reader):
    """The fewest cells of a reader alike to this one: the rank of what it tells of words put ahead of words."""
    steps = dict(reader.steps())
    last = dict(reader.last())
    cells = reader.cells

    def led(numbers, letter):
        rows = steps[letter]
        return [sum([numbers[i] * fraction(rows[i][j]) for i in range(cells)], Fraction(0)) for j in range(cells)]

    def all_led(start, lead):
        """The rows to which all rows of at most as many letters as there are cells lead, and no more than needed."""
        found, new = [], [start]
        while new:
            kept = []
            for numbers in new:
                if rank_of(found + [numbers]) > len(found):
                    found.append(numbers)
                    kept.append(numbers)
            new = [lead(numbers, letter) for numbers in kept for letter in steps]
        return found

    def led_back(numbers, letter):
        rows = steps[letter]
        return [sum([fraction(rows[i][j]) * numbers[j] for j in range(cells)], Fraction(0)) for i in range(cells)]

    ahead = all_led([fraction(number) for number in reader.start()], led)
    behind = [one for numbers in last.values() for one in all_led([fraction(number) for number in numbers], led_back)]
    return rank_of([[sum([one * two for one, two in zip(row, column)], Fraction(0)) for column in behind]
                    for row in ahead])


def square_of(form, ahead, behind):
    """The square of point 74, of however many rows."""
    square = []
    for one in ahead:
        rows = [rows_of(one) + rows_of(other) for other in behind]
        square.append([form_at_rows(form, both, len(both) - 1) for both in rows])
    return square


class ReaderOfTest(Case):
    def test_a_reader_with_the_fewest_cells(self):
        chance = random.Random(91)
        for turn in range(200):
            form = some_forward_form(chance, turn % 4, 4, 6, 1 + turn % 2)
            reader = reader_of(form)
            self.assertIsInstance(reader, Reader)
            self.same(reader.columns, form.columns)
            self.same(reader.cells, independent_quotients(form))
            for height in (0, 1, 3, 6):
                table = some_table(chance, form.columns, height)
                self.assertEqual(read(reader, table), form_worths(form, table))
            self.assertIs(tells(reader, form), True)
            self.assertEqual(reader_of(form=form), reader)

    def test_products_have_few_cells(self):
        # All products of a word's begin with a factor, and of a letter, are one quotient each.
        words = [(), ((0,),), ((0,), (1,))]
        form = Form(1, [((word, own, ()), Ratio(2, 3)) for word in words for own in ((0,), (1,), (5,))])
        self.same(reader_of(form).cells, 3)
        self.same(reader_of(Form(1, [(((), (3,), ()), 7)])).cells, 1)
        self.same(reader_of(Form(2, [])), Reader(2, [], [], []))

    def test_at_most_12_cells(self):
        for many in (3, 8):
            self.same(reader_of(chain(many)).cells, many)
        self.same(reader_of(fan(11)).cells, 12)
        self.too_many("cells", 12, reader_of, fan(12))
        self.too_many("cells", 12, reader_of, fan(60))
        ten = form_plus(chain(8), Form(1, [((((8,), (8,), (8,), (8,)), (1,), ()), 1)]))
        self.same(reader_of(ten).cells, independent_quotients(ten))

    def test_at_most_40_letters(self):
        letters = letters_of(2, range(9))[1:]
        for many in (39, 40, 60):
            left = Form(2, [(((letter,), (1, 1), ()), 1) for letter in letters[:many]])
            self.same(fewest_cells(left), 2)
            if many == 39:
                self.same(len(reader_of(left).steps()), 40)
            else:
                self.too_many("steps", 40, reader_of, left)
        for many in (40, 41, 60):
            own = Form(2, [(((), letter, ()), 3) for letter in letters[:many]])
            self.same(fewest_cells(own), 1)
            if many == 40:
                self.same(len(reader_of(own).last()), 40)
            else:
                self.too_many("steps", 40, reader_of, own)
        # With the bare letter in left words these may be 40, it being one of them.
        bare = Form(2, [(((letter,), (1, 1), ()), 1) for letter in [(0, 0)] + letters[:39]])
        self.same(len(reader_of(bare).steps()), 40)

    def test_cells_come_ahead_of_letters(self):
        letters = letters_of(2, range(9))[1:]
        many = Form(2, [(((letter,), letter, ()), 1) for letter in letters[:50]])
        self.too_many("cells", 12, reader_of, many)

    def test_numbers_of_the_answer(self):
        chance = random.Random(92)
        form = Form(1, [((some_word(chance, 1, at % 4), (at % 9,), ()), Ratio(999983 - at, 999979 + at))
                        for at in range(11)])
        reader = reader_of(form)
        self.same(reader.cells, independent_quotients(form))
        table = some_table(chance, 1, 6)
        self.assertEqual(read(reader, table), form_worths(form, table))

    def test_errors(self):
        for function in OF_FORMS:
            self.refuses_each(function, {"form": SQUARE}, {"form": (InvalidForm, no_forms())})
            self.raised(NotForward, function, BEYOND)
        self.refuses_each(is_cells_paper, {"form": SQUARE, "value": None}, {"form": (InvalidForm, no_forms())})
        for value in (None, ([], []), cells_paper(SQUARE)):
            self.raised(NotForward, is_cells_paper, BEYOND, value)
        # A form of far too many cells that looks beyond is refused as such.
        self.raised(NotForward, reader_of, form_plus(fan(30), Form(3, [(((), (0, 0, 0), ((0, 0, 0),)), 1)])))


class FewestTest(Case):
    def test_as_many_as_independent_quotients(self):
        chance = random.Random(93)
        for turn in range(200):
            form = some_forward_form(chance, turn % 4, 5, 9, 1 + turn % 2)
            found = fewest_cells(form)
            self.same(found, independent_quotients(form))
            self.same(fewest_cells(form=form), found)

    def test_far_more_than_12(self):
        self.same([fewest_cells(fan(many)) for many in (0, 1, 12, 63)], [0, 2, 13, 64])
        chance = random.Random(94)
        letters = letters_of(3, range(9))[:400]
        form = Form(3, [(((letter,) + some_word(chance, 3, 6, 8), letter, ()), 7) for letter in letters])
        self.same(fewest_cells(form), 1 + 7 * 400)

    def test_a_great_square_of_words(self):
        # Sums of products of so many words ahead and so many behind, each with another number.
        chance = random.Random(95)
        begins = [((at % 3,), (at % 5,), (at % 7,)) for at in range(12)]
        ends = [((at % 7,), (at % 5,), (at % 2,)) for at in range(12)]
        form = Form(1, [((begin + end, (0,), ()), chance.randrange(1, 10 ** 6)) for begin in begins for end in ends])
        wanted = [len({begin[:at] for begin in begins}) for at in range(4)]
        wanted += [len({end[at:] for end in ends}) for at in range(1, 4)]
        self.same(fewest_cells(form), sum(wanted))

    def test_multiples_count_once(self):
        form = form_plus(SQUARE, form_times(SO_FAR, 5))
        self.same([fewest_cells(form), fewest_cells(form_times(form, Ratio(-7, 3))), fewest_cells(SO_FAR)], [3, 3, 2])
        self.same(fewest_cells(form_times(form, 0)), 0)


class TellsTest(Case):
    def test_readers_of_forms(self):
        chance = random.Random(96)
        for turn in range(80):
            form = some_forward_form(chance, turn % 4, 4)
            other = some_forward_form(chance, turn % 4, 4)
            self.assertIs(tells(reader_of(form), other), form == other)
            self.assertIs(tells(form=form, reader=reader_of(form)), True)

    def test_with_cells_that_are_not_needed(self):
        steps = [((0,), [[1, 0, 0], [0, 1, 2], [0, 0, 1]]), ((1,), [[0, 1, 1], [0, 0, 0], [0, 0, 3]])]
        more = Reader(1, [1, 0, 5], steps, [((0,), [0, 1, 0])])
        self.assertIs(tells(more, SO_FAR), True)
        self.assertIs(tells(more, SQUARE), False)
        self.assertIs(tells(Reader(1, [], [], []), Form(1, [])), True)
        self.assertIs(tells(Reader(1, [1], [((0,), [[1]])], []), Form(1, [])), True)
        self.assertIs(tells(Reader(1, [], [], []), SO_FAR), False)

    def test_readers_of_no_form(self):
        # What is kept is taken twice from row to row, or not at all: no sums over choices of rows.
        self.assertIs(tells(Reader(1, [1], [((0,), [[2]])], [((1,), [1])]), Form(1, [(((), (1,), ()), 1)])), False)
        self.assertIs(tells(Reader(1, [1], [((0,), [[1]])], [((1,), [1])]), Form(1, [(((), (1,), ()), 1)])), True)
        self.assertIs(tells(Reader(1, [1], [], [((1,), [1])]), Form(1, [(((), (1,), ()), 1)])), False)

    def test_forms_that_look_beyond(self):
        chance = random.Random(97)
        for turn in range(40):
            form = form_plus(some_form(chance, 1, 3), BEYOND)
            if any(right for (left, own, right), factor in form.parts()):
                self.assertIs(tells(ADDING, form), False)
                self.assertIs(tells(Reader(1, [], [], []), form), False)

    def test_forms_with_too_many_letters_or_cells(self):
        letters = letters_of(2, range(9))[1:]
        last = [(letter, [3]) for letter in letters[:40]]
        reader = Reader(2, [1], [((0, 0), [[1]])], last)
        self.assertIs(tells(reader, Form(2, [(((), letter, ()), 3) for letter in letters[:40]])), True)
        self.assertIs(tells(reader, Form(2, [(((), letter, ()), 3) for letter in letters[:41]])), False)
        self.assertIs(tells(reader_of(fan(11)), fan(11)), True)
        self.assertIs(tells(reader_of(fan(11)), fan(12)), False)
        self.assertIs(tells(reader_of(fan(11)), fan(60)), False)

    def test_one_number_off(self):
        reader = reader_of(SQUARE)
        for letter, lists in reader.steps():
            for i in range(3):
                for j in range(3):
                    steps = [(one, [list(row) for row in rows]) for one, rows in reader.steps()]
                    dict(steps)[letter][i][j] += Ratio(1, 3)
                    bent = Reader(1, reader.start(), steps, reader.last())
                    tables = (Table(1, [[2], [3], [5], [7], [1], [4]]), Table(1, [[1], [0], [3], [2]]))
                    wanted = all(read(bent, table) == form_worths(SQUARE, table) for table in tables)
                    self.assertIs(tells(bent, SQUARE), wanted)

    def test_errors(self):
        self.refuses_each(tells, {"reader": ADDING, "form": SO_FAR},
                          {"reader": (InvalidReader, no_readers()), "form": (InvalidForm, no_forms() + [ADDING])})
        for columns in range(4):
            for others in range(4):
                if columns != others:
                    self.raised(UnlikeColumns, tells, Reader(columns, [], [], []), Form(others, []))


class LessenedTest(Case):
    def some_reader(self, chance, columns, cells):
        numbers = chance.choice([(0, 0, 0, 1), (0, 0, 1, -1, 2), (0, 1, Ratio(1, 2), Ratio(-2, 3))])
        letters = letters_of(columns, range(2))

        def some_letters():
            return chance.sample(letters, min(len(letters), chance.randrange(4)))

        def some_numbers():
            return [chance.choice(numbers) for _ in range(cells)]

        return Reader(columns, some_numbers(), [(letter, [some_numbers() for _ in range(cells)])
                                                for letter in some_letters()],
                      [(letter, some_numbers()) for letter in some_letters()])

    def test_alike_with_the_fewest_cells(self):
        chance = random.Random(98)
        fewer = 0
        for turn in range(200):
            reader = self.some_reader(chance, turn % 4, turn % 6)
            found = lessened(reader)
            self.assertIsInstance(found, Reader)
            self.same(found.cells, independent_words(reader))
            self.assertIs(are_alike(reader, found), True)
            self.assertEqual(lessened(reader=reader), found)
            table = some_table(chance, turn % 4, 4)
            self.assertEqual(read(found, table), read(reader, table))
            fewer += found.cells < reader.cells
        self.assertGreater(fewer, 50)

    def test_readers_that_are_fewest_stay(self):
        chance = random.Random(99)
        for turn in range(40):
            form = some_forward_form(chance, turn % 3, 4)
            reader = reader_of(form)
            self.same(lessened(reader).cells, reader.cells)
            self.assertIs(tells(lessened(reader), form), True)

    def test_readers_in_other_cells(self):
        # Twelve cells hold sums of multiples of what three hold; the cells 1, 6 and 11 tell these three.
        chance = random.Random(100)
        few = reader_of(SQUARE)
        up = [[chance.randrange(-3, 4) for _ in range(12)] for _ in range(3)]
        for at, place in enumerate((1, 6, 11)):
            for row in range(3):
                up[row][place] = 1 if row == at else 0

        def led(numbers):
            return [Ratio.total([numbers[i] * up[i][j] for i in range(3)]) for j in range(12)]

        def spread(rows, nothing):
            return [rows[(1, 6, 11).index(at)] if at in (1, 6, 11) else nothing for at in range(12)]

        steps = [(letter, spread([led(row) for row in lists], [0] * 12)) for letter, lists in few.steps()]
        last = [(letter, spread(numbers, 0)) for letter, numbers in few.last()]
        reader = Reader(1, led(few.start()), steps, last)
        self.assertIs(tells(reader, SQUARE), True)
        self.same(lessened(reader).cells, 3)
        self.assertIs(tells(lessened(reader), SQUARE), True)

    def test_cells_that_are_reached_or_told_by_nothing(self):
        self.same(lessened(Reader(1, [1, 1], [], [((0,), [2, 3])])).cells, 1)
        self.same(lessened(Reader(1, [0, 0], [((0,), [[1, 1], [1, 1]])], [((0,), [2, 3])])).cells, 0)
        self.same(lessened(Reader(1, [1, 2], [((0,), [[1, 1], [1, 1]])], [])), Reader(1, [], [], []))
        self.same(lessened(Reader(3, [], [], [])), Reader(3, [], [], []))
        self.same(lessened(Reader(1, [1, 1], [((0,), [[1, 0], [0, 1]])], [((0,), [1, -1])])).cells, 0)

    def test_great_fractions(self):
        chance = random.Random(101)

        def number():
            return Ratio(chance.randrange(1, 10 ** 6), chance.randrange(1, 10 ** 6))

        for cells in (4, 12):
            steps = [((at,), [[number() for _ in range(cells)] for _ in range(cells)]) for at in range(3)]
            reader = Reader(1, [number() for _ in range(cells)], steps, [((0,), [number() for _ in range(cells)])])
            self.assertEqual(lessened(reader), reader)

    def test_what_is_passed_stays(self):
        reader = Reader(1, ADDING.start(), ADDING.steps(), ADDING.last())
        lessened(ADDING)
        tells(ADDING, SO_FAR)
        self.assertEqual(reader, ADDING)

    def test_errors(self):
        self.refuses_each(lessened, {"reader": ADDING}, {"reader": (InvalidReader, no_readers())})


class CellsPaperTest(Case):
    def check(self, form):
        found = cells_paper(form)
        self.assertIs(type(found), tuple)
        ahead, behind = found
        self.assertIs(type(ahead), list)
        self.assertIs(type(behind), list)
        self.same([len(ahead), len(behind)], [independent_quotients(form)] * 2)
        for table in ahead + behind:
            self.assertIsInstance(table, Table)
            self.same(table.columns, form.columns)
        self.assertTrue(all(table.height > 0 for table in behind))
        self.assertNotEqual(determinant_of(square_of(form, ahead, behind)), 0)
        self.assertIs(is_cells_paper(form, found), True)
        self.assertEqual(cells_paper(form=form), found)
        return found

    def test_squares_with_a_determinant(self):
        chance = random.Random(102)
        for turn in range(120):
            self.check(some_forward_form(chance, turn % 4, 4, 6, 1 + turn % 2))

    def test_long_words_and_many_cells(self):
        for form in (chain(8), fan(11), Form(0, [((((),) * 7, (), ()), 1)])):
            self.check(form)
        self.same(self.check(Form(2, [])), ([], []))

    def test_many_letters_are_no_bar(self):
        letters = letters_of(2, range(9))[1:]
        self.check(Form(2, [(((letter,), (1, 1), ()), at + 1) for at, letter in enumerate(letters[:60])]))

    def test_at_most_12_cells(self):
        self.too_many("cells", 12, cells_paper, fan(12))
        self.too_many("cells", 12, cells_paper, fan(60))

    def test_the_judge_against_determinants(self):
        chance = random.Random(103)
        let = 0
        for turn in range(200):
            form = some_forward_form(chance, turn % 3, 3, 4)
            many = independent_quotients(form)
            ahead = [some_table(chance, form.columns, chance.randrange(4)) for _ in range(many)]
            behind = [some_table(chance, form.columns, chance.randrange(1, 4)) for _ in range(many)]
            wanted = determinant_of(square_of(form, ahead, behind)) != 0
            self.assertIs(is_cells_paper(form, (ahead, behind)), wanted)
            self.assertIs(is_cells_paper(value=(tuple(ahead), tuple(behind)), form=form), wanted)
            let += wanted
        self.assertGreater(let, 40)
        self.assertLess(let, 190)

    def test_just_so_many_tables(self):
        chance = random.Random(104)
        for turn in range(60):
            form = some_forward_form(chance, 1, 3, 5)
            ahead, behind = cells_paper(form)
            tables = [some_table(chance, 1, 3) for _ in range(5)]
            self.assertIs(is_cells_paper(form, (ahead + tables[:1], behind + tables[:1])), False)
            self.assertIs(is_cells_paper(form, (ahead + tables[:1], behind)), False)
            self.assertIs(is_cells_paper(form, (ahead, behind + tables[:1])), False)
            if ahead:
                self.assertIs(is_cells_paper(form, (ahead[1:], behind[1:])), False)
                self.assertIs(is_cells_paper(form, (ahead[1:], behind)), False)
                self.assertIs(is_cells_paper(form, ([], [])), False)

    def test_of_however_many_rows(self):
        ahead = [Table(1, []), Table(1, [[1]] * 40)]
        behind = [Table(1, [[0]]), Table(1, [[1]] * 40)]
        self.assertIs(is_cells_paper(SO_FAR, (ahead, behind)), determinant_of(square_of(SO_FAR, ahead, behind)) != 0)
        self.assertIs(is_cells_paper(SO_FAR, (ahead, behind)), True)
        self.assertIs(is_cells_paper(SO_FAR, ([ahead[1]] * 2, behind)), False)

    def test_of_any_value(self):
        one, two = [Table(1, []), Table(1, [[1]])], [Table(1, [[0]]), Table(1, [[1], [0]])]
        self.assertIs(is_cells_paper(SO_FAR, (one, two)), True)
        values = odd_values() + [0, Ratio(1), (), [], (one,), (one, two, two), [one, two], ([], []), one, two,
                                 (two, one),
                                 ([[], [[1]]], two), (one, [[[0]], [[1], [0]]]), (one, [two[0], Table(1, [])]),
                                 (dict(enumerate(one)), two), ([one], two), ([one[0], (one[1],)], two)]
        for value in no_tables() + [SO_FAR]:
            values += [(value, two), (one, value), ([one[0], value], two), (one, [value, two[1]])]
        for columns in (0, 2, 3):
            rows = Table(columns, [[1] * columns])
            values += [([one[0], rows], two), (one, [two[0], rows]), ([rows] * 2, [rows] * 2)]
        for value in values:
            self.assertIs(is_cells_paper(SO_FAR, value), False)

    def test_without_terms(self):
        self.assertIs(is_cells_paper(Form(1, []), ([], [])), True)
        self.assertIs(is_cells_paper(Form(1, []), ((), ())), True)
        self.assertIs(is_cells_paper(Form(1, []), ([Table(1, [])], [Table(1, [[1]])])), False)

    def test_what_is_told_is_new(self):
        first, second = cells_paper(SQUARE), cells_paper(SQUARE)
        first[0].pop()
        first[1].append(1)
        self.assertEqual(cells_paper(SQUARE), second)
        parts = SQUARE.parts()
        self.leaves(is_cells_paper, SQUARE, ([], []))
        self.same(SQUARE.parts(), parts)


class FewerCellsTest(Case):
    def test_no_reader_of_fewer_cells(self):
        """What a reader of so many cells tells has no greater determinant: its squares are 0 for one table more."""
        chance = random.Random(105)
        for _ in range(30):
            form = some_forward_form(chance, 1, 3, 5)
            many = fewest_cells(form)
            tables = [some_table(chance, 1, height) for height in (0, 1, 2, 3) for _ in range(2)]
            further = [some_table(chance, 1, height) for height in (1, 2, 3, 1) for _ in range(2)]
            self.assertLessEqual(rank_of(square_of(form, tables, further)), many)


if __name__ == "__main__":
    unittest.main()
