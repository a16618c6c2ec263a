"""Tables: points 2, 5 and 12 of the document."""

import unittest

from aheadsums.errors import (InvalidColumns, InvalidHigh, InvalidLow, InvalidPosition, InvalidRow, InvalidRows,
                              InvalidTable, UnlikeColumns)
from aheadsums.ratios import Ratio
from aheadsums.tables import Table, exchanged, joined, piece, turned, with_row, without_row
from tests.helping import Case, LikeAll, no_columns, no_counts, no_numbers, no_tables, odd_values


def numbered(height, columns=1):
    """A table whose rows can all be told from each other."""
    return Table(columns, [[100 * at + k for k in range(columns)] for at in range(height)])


def tops(table):
    """The rows of a table of INTEGERS, as lists of these."""
    return [[number.top for number in row] for row in table.rows()]


class MadeTest(Case):
    def test_what_it_has(self):
        for columns in range(4):
            for height in (0, 1, 2, 39, 40):
                table = numbered(height, columns)
                self.same((table.columns, table.height), (columns, height))
                self.same(table.rows(), [[Ratio(100 * at + k) for k in range(columns)] for at in range(height)])

    def test_no_columns(self):
        self.same((Table(0, []).columns, Table(0, []).height, Table(0, []).rows()), (0, 0, []))
        self.same((Table(0, [[], []]).height, Table(0, [[], ()]).rows()), (2, [[], []]))
        self.assertNotEqual(Table(0, [[]]), Table(0, [[], []]))

    def test_tuples_and_numbers_of_both_kinds(self):
        table = Table(2, ((1, Ratio(1, 2)), [Ratio(4, 2), -3]))
        self.same(table.rows(), [[Ratio(1), Ratio(1, 2)], [Ratio(2), Ratio(-3)]])
        self.assertEqual(table, Table(rows=[[1, Ratio(1, 2)], [2, Ratio(-3)]], columns=2))

    def test_what_is_told_is_new(self):
        table = Table(2, [[1, 2], [3, 4]])
        self.is_new(table.rows)
        told = table.rows()
        told[0][0] = 9
        told.pop()
        self.assertEqual(tops(table), [[1, 2], [3, 4]])
        self.assertEqual(table.height, 2)

    def test_what_was_passed_is_copied_and_stays(self):
        rows = [[1, Ratio(1, 2)], [3, 4]]
        table = self.leaves(Table, 2, rows)
        rows[0][0] = 9
        rows.append([5, 6])
        self.assertEqual(table, Table(2, [[1, Ratio(1, 2)], [3, 4]]))
        self.same(table.height, 2)

    def test_wrong_columns(self):
        self.refuses_each(Table, {"columns": 1, "rows": [[1]]},
                          {"columns": (InvalidColumns, no_columns()), "rows": (InvalidRows, odd_values() + [0, 1])})
        self.refuses(InvalidColumns, 4, Table, 4, "rows")
        self.refuses(InvalidColumns, True, Table, True, [[1]])
        self.refuses(InvalidColumns, Ratio(1), Table, Ratio(1), [[1]])

    def test_wrong_rows(self):
        for value in no_numbers():
            for rows in ([[value]], [[1], [value]], ((value,),), [[1], (value,), [2]]):
                self.refuses(InvalidRows, rows, Table, 1, rows)
            self.refuses(InvalidRows, [[1, value, 3]], Table, 3, [[1, value, 3]])
        for row in odd_values() + [1, Ratio(1)]:
            self.refuses(InvalidRows, [[1], row], Table, 1, [[1], row])
            self.refuses(InvalidRows, [row], Table, 0, [row])
        self.refuses(InvalidRows, [[True]], Table, 1, [[True]])

    def test_rows_of_other_widths(self):
        for columns in range(4):
            for width in range(6):
                rows = [[1] * columns, [1] * width]
                if width == columns:
                    self.same(Table(columns, rows).height, 2)
                else:
                    self.refuses(InvalidRows, rows, Table, columns, rows)

    def test_at_most_40_rows(self):
        self.same(Table(1, [[1]] * 40).height, 40)
        for many in (41, 42, 200):
            self.refuses(InvalidRows, [[1]] * many, Table, 1, [[1]] * many)
            self.refuses(InvalidRows, [[]] * many, Table, 0, [[]] * many)

    def test_it_never_changes(self):
        table = numbered(3)
        for name in ("columns", "height"):
            with self.assertRaises(AttributeError):
                setattr(table, name, 1)


class EqualTest(Case):
    def test_by_columns_and_the_worth_of_the_numbers(self):
        self.assertIs(Table(1, [[2]]) == Table(1, [[Ratio(4, 2)]]), True)
        self.assertIs(Table(1, [[2]]) != Table(1, ((Ratio(2),),)), False)
        self.assertIs(Table(1, []) == Table(1, []), True)
        for other in (Table(1, [[3]]), Table(1, []), Table(1, [[2], [2]]), Table(2, [[2, 2]]), Table(0, [[]])):
            self.assertIs(Table(1, [[2]]) == other, False)
            self.assertIs(Table(1, [[2]]) != other, True)

    def test_no_rows_of_unlike_columns(self):
        for columns in range(4):
            for others in range(4):
                self.assertIs(Table(columns, []) == Table(others, []), columns == others)

    def test_by_the_sequence_of_the_rows(self):
        self.assertIs(Table(1, [[1], [2]]) == Table(1, [[2], [1]]), False)
        self.assertIs(Table(2, [[1, 2]]) == Table(2, [[2, 1]]), False)

    def test_nothing_else_is_equal(self):
        for table in (Table(1, [[2]]), Table(0, []), Table(1, [])):
            for value in no_tables() + [[[Ratio(2)]]]:
                self.assertIs(table == value, False)
                self.assertIs(table != value, True)
                if not isinstance(value, LikeAll) and type(value).__name__ != "Unlikeable":
                    self.assertIs(value == table, False)


class JoinedTest(Case):
    def test_the_second_ones_rows_stand_behind(self):
        for one in range(4):
            for other in range(4):
                first, second = numbered(one, 2), Table(2, [[-at, 7] for at in range(other)])
                self.same(tops(joined(first, second)), tops(first) + tops(second))
                self.same(joined(first, second).columns, 2)
                self.same((first.height, second.height), (one, other))

    def test_with_no_rows_and_with_itself(self):
        table = numbered(3)
        self.assertEqual(joined(table, Table(1, [])), table)
        self.assertEqual(joined(Table(1, []), table), table)
        self.same(tops(joined(table, table)), [[0], [100], [200], [0], [100], [200]])
        self.same(joined(Table(0, [[]]), Table(0, [[], []])).height, 3)

    def test_40_rows(self):
        self.same(joined(numbered(20), numbered(20)).height, 40)
        self.same(joined(numbered(40), numbered(0)).height, 40)
        self.same(joined(numbered(0), numbered(40)).height, 40)
        for one, other in [(40, 1), (1, 40), (20, 21), (40, 40)]:
            self.too_many("rows", 40, joined, numbered(one), numbered(other))

    def test_errors(self):
        self.refuses_each(joined, {"table": numbered(1), "other": numbered(2)},
                          {"table": (InvalidTable, no_tables()), "other": (InvalidTable, no_tables())})

    def test_errors_of_state_stand_behind(self):
        self.raised(UnlikeColumns, joined, numbered(1, 1), numbered(1, 2))
        self.raised(UnlikeColumns, joined, Table(0, []), Table(1, []))
        self.raised(UnlikeColumns, joined, numbered(40, 1), numbered(40, 2))
        self.refuses(InvalidTable, None, joined, numbered(40, 1), None)


class TurnedTest(Case):
    def test_turned(self):
        for height in (0, 1, 2, 3, 40):
            for columns in range(4):
                table = numbered(height, columns)
                self.same(tops(turned(table)), tops(table)[::-1])
                self.assertEqual(turned(table=turned(table)), table)
                self.same(tops(table), tops(numbered(height, columns)))
                self.same(turned(table).columns, columns)

    def test_errors(self):
        self.refuses_each(turned, {"table": numbered(1)}, {"table": (InvalidTable, no_tables())})


class PieceTest(Case):
    def test_all_pieces(self):
        for height in (0, 1, 2, 5, 40):
            table = numbered(height, 2)
            for low in range(height + 1):
                for high in range(low, height + 1):
                    found = piece(table, low, high)
                    self.same(tops(found), tops(table)[low:high])
                    self.same((found.columns, found.height), (2, high - low))
            self.same(table.height, height)

    def test_errors(self):
        no_high = no_counts() + [0, 1, 6, 7, 10 ** 30, Ratio(3)]
        self.refuses_each(piece, {"table": numbered(5), "low": 2, "high": 3},
                          {"table": (InvalidTable, no_tables()), "low": (InvalidLow, no_counts() + [6, 10 ** 30]),
                           "high": (InvalidHigh, no_high)})

    def test_edges(self):
        table = numbered(5)
        self.assertEqual(piece(table, 5, 5), Table(1, []))
        self.assertEqual(piece(table, 0, 5), table)
        self.refuses(InvalidLow, 6, piece, table, 6, 6)
        self.refuses(InvalidHigh, 4, piece, table, 5, 4)
        self.refuses(InvalidHigh, 6, piece, table, 5, 6)
        self.refuses(InvalidLow, 1, piece, Table(1, []), 1, 1)
        self.refuses(InvalidHigh, 1, piece, Table(1, []), 0, 1)
        self.refuses(InvalidLow, -1, piece, table, -1, 9)


class WithRowTest(Case):
    def test_the_row_stands_at_the_position(self):
        for height in (0, 1, 2, 5, 39):
            for position in range(height + 1):
                table = numbered(height, 2)
                found = with_row(table, position, [7, 8])
                wanted = tops(table)
                wanted.insert(position, [7, 8])
                self.same(tops(found), wanted)
                self.same((found.columns, table.height), (2, height))

    def test_rows_of_whatever_kind(self):
        self.same(with_row(Table(0, []), 0, []).rows(), [[]])
        self.same(with_row(Table(0, [[]]), 1, ()).rows(), [[], []])
        self.same(with_row(Table(3, []), 0, (1, Ratio(6, 4), -2)).rows(), [[Ratio(1), Ratio(3, 2), Ratio(-2)]])

    def test_the_row_is_copied_and_stays(self):
        row = [1, Ratio(2)]
        table = with_row(Table(2, []), 0, row)
        self.same(row, [1, Ratio(2)])
        row[0] = 5
        self.same(tops(table), [[1, 2]])

    def test_errors(self):
        no_rows = odd_values() + [1, Ratio(1), [], [1], [1, 2, 3], [[1, 2]], (1,)]
        no_rows += [[1, value] for value in no_numbers()] + [(value, 1) for value in no_numbers()]
        self.refuses_each(with_row, {"table": numbered(3, 2), "position": 3, "row": [1, 2]},
                          {"table": (InvalidTable, no_tables()),
                           "position": (InvalidPosition, no_counts() + [4, 5, 10 ** 30]), "row": (InvalidRow, no_rows)})

    def test_40_rows_come_last(self):
        for position in (0, 20, 40):
            self.too_many("rows", 40, with_row, numbered(40), position, [1])
        self.refuses(InvalidPosition, 41, with_row, numbered(40), 41, [1])
        self.refuses(InvalidRow, [True], with_row, numbered(40), 40, [True])
        self.refuses(InvalidPosition, 41, with_row, numbered(40), 41, None)


class WithoutRowTest(Case):
    def test_the_row_is_gone(self):
        for height in (1, 2, 5, 40):
            for position in range(height):
                table = numbered(height, 2)
                wanted = tops(table)
                del wanted[position]
                self.same(tops(without_row(table, position)), wanted)
                self.same(table.height, height)
                self.assertEqual(with_row(without_row(table, position), position, table.rows()[position]), table)
        self.same(without_row(Table(0, [[]]), 0).rows(), [])

    def test_errors(self):
        self.refuses_each(without_row, {"table": numbered(3), "position": 2},
                          {"table": (InvalidTable, no_tables()),
                           "position": (InvalidPosition, no_counts() + [3, 4, 10 ** 30])})
        for value in (0, 1, -1):
            self.refuses(InvalidPosition, value, without_row, Table(1, []), value)


class ExchangedTest(Case):
    def test_the_row_and_the_next_one(self):
        for height in (2, 3, 5, 40):
            for position in range(height - 1):
                table = numbered(height, 2)
                wanted = tops(table)
                wanted[position], wanted[position + 1] = wanted[position + 1], wanted[position]
                found = exchanged(table, position)
                self.same(tops(found), wanted)
                self.same((tops(table), found.columns), (tops(numbered(height, 2)), 2))
                self.assertEqual(exchanged(found, position), table)

    def test_errors(self):
        self.refuses_each(exchanged, {"table": numbered(3), "position": 1},
                          {"table": (InvalidTable, no_tables()),
                           "position": (InvalidPosition, no_counts() + [2, 3, 10 ** 30])})
        for height in (0, 1):
            for value in (-2, -1, 0, 1):
                self.refuses(InvalidPosition, value, exchanged, numbered(height), value)


if __name__ == "__main__":
    unittest.main()
