"""Programs: points 13, 14 and 15 of the document."""

import random
import unittest
from fractions import Fraction

from aheadsums.errors import InvalidColumns, InvalidOthers, InvalidProgram, InvalidSteps, InvalidTable, UnlikeColumns
from aheadsums.programs import Program, all_results, mirrored, put_into, results, total
from aheadsums.ratios import Ratio
from aheadsums.tables import Table, turned
from tests.helping import (Case, LikeAll, column_of, no_columns, no_counts, no_numbers, no_tables, odd_values,
                           rows_of, some_steps, some_table)

ONE = Program(1, [("column", 0)])
NO_PROGRAMS = odd_values() + [0, 1, Ratio(1), [], [("told", 1)], (), (1, [("told", 1)]), Table(1, [])]
NO_TABLES = no_tables() + [ONE]
SHORT = Table(1, [[2], [Ratio(1, 2)], [3]])


def some_pairs():
    """Programs and tables of as many columns."""
    chance = random.Random(13)
    pairs = []
    for turn in range(120):
        columns = turn % 4
        program = Program(columns, some_steps(chance, columns, 1 + turn % 9))
        pairs.append((program, some_table(chance, columns, turn % 6)))
    return pairs


class MadeTest(Case):
    def test_steps_are_told_as_tuples_with_ratios(self):
        steps = [("column", 1), ("told", 2), ("told", Ratio(6, 4)), ("sum", 0, 1), ("less", 3, 0), ("times", 4, 4),
                 ("ahead", 5), ("behind", 0)]
        program = Program(2, steps)
        self.same(program.columns, 2)
        self.same(program.steps(), [("column", 1), ("told", Ratio(2)), ("told", Ratio(3, 2))] + steps[3:])
        self.assertEqual(Program(2, tuple(steps)), program)
        self.assertEqual(Program(steps=steps, columns=2), program)

    def test_what_is_told_is_new(self):
        self.is_new(Program(1, [("column", 0), ("told", 1)]).steps)

    def test_what_was_passed_is_copied_and_stays(self):
        steps = [("told", 1)]
        program = self.leaves(Program, 0, steps)
        steps.append(("ahead", 0))
        self.same(program.steps(), [("told", Ratio(1))])

    def test_it_never_changes(self):
        with self.assertRaises(AttributeError):
            ONE.columns = 2

    def test_1_to_200_steps(self):
        for many in (1, 2, 199, 200):
            self.same(len(Program(0, [("told", 1)] * many).steps()), many)
        for steps in ([], (), [("told", 1)] * 201, [("told", 1)] * 300):
            self.refuses(InvalidSteps, steps, Program, 0, steps)
        long = [("told", 1)] + [("ahead", at) for at in range(199)]
        self.same(Program(0, long).steps()[199], ("ahead", 198))

    def test_columns(self):
        for columns in range(4):
            for k in range(6):
                steps = [("column", k)]
                if k < columns:
                    self.same(Program(columns, steps).steps(), steps)
                else:
                    self.refuses(InvalidSteps, steps, Program, columns, steps)
        for value in no_counts():
            self.refuses(InvalidSteps, [("column", value)], Program, 2, [("column", value)])

    def test_places_are_below_the_steps_own(self):
        for word, many in [("ahead", 1), ("behind", 1), ("sum", 2), ("less", 2), ("times", 2)]:
            for at in range(4):
                ahead = [("told", 1)] * at
                for place in range(6):
                    for parts in [[place] * many, ([0, place])[:many] if at else [place] * many,
                                  ([place, 0])[:many] if at else [place] * many]:
                        steps = ahead + [(word,) + tuple(parts)] + [("told", 2)] * 6
                        if max(parts) < at:
                            self.same(Program(0, steps).steps()[at], steps[at])
                        else:
                            self.refuses(InvalidSteps, steps, Program, 0, steps)

    def test_places_are_counts(self):
        for value in no_counts():
            for step in [("ahead", value), ("behind", value), ("sum", value, 0), ("sum", 0, value),
                         ("less", value, 0), ("less", 0, value), ("times", value, 0), ("times", 0, value)]:
                steps = [("told", 1), ("told", 1), step]
                self.refuses(InvalidSteps, steps, Program, 1, steps)

    def test_told_numbers(self):
        for value in no_numbers():
            self.refuses(InvalidSteps, [("told", value)], Program, 0, [("told", value)])
        self.worths(results(Program(0, [("told", Ratio(-7, 3))]), Table(0, [[], []])), [Fraction(-7, 3)] * 2)

    def test_what_is_no_step(self):
        for step in [("column",), ("column", 0, 0), ("told",), ("told", 1, 1), ("sum",), ("sum", 0), ("sum", 0, 0, 0),
                     ("less", 0), ("less", 0, 0, 0), ("times", 0), ("times", 0, 0, 0), ("ahead",), ("ahead", 0, 0),
                     ("behind",), ("behind", 0, 0), (), ["column", 0], ["told", 1], ["ahead", 0], "column", "told",
                     ("Column", 0), ("columns", 0), ("plus", 0, 0), ("minus", 0, 0), ("product", 0, 0), ("", 0),
                     ("row", 0), ("own", 0), ("ahead ", 0), (b"ahead", 0), (0, 0), (0, "ahead"), (None, 0),
                     (["told"], 1), (("told",), 1), (LikeAll(), 0), (LikeAll(), 0, 0), (("told", 1),)] + odd_values():
            for steps in ([("told", 1), step], [("told", 1), step, ("told", 2)], (("told", 1), step)):
                self.refuses(InvalidSteps, steps, Program, 1, steps)

    def test_errors(self):
        no_steps = odd_values() + [0, 1, Ratio(1), [], (), ("told", 1), [[("told", 1)]], [("ahead", 0)]]
        self.refuses_each(Program, {"columns": 1, "steps": [("column", 0)]},
                          {"columns": (InvalidColumns, no_columns()), "steps": (InvalidSteps, no_steps)})


class EqualTest(Case):
    def test_by_columns_and_steps(self):
        self.assertIs(Program(1, [("told", 2)]) == Program(1, (("told", Ratio(4, 2)),)), True)
        self.assertIs(Program(1, [("told", 2)]) != Program(1, [("told", Ratio(2))]), False)
        for other in (Program(2, [("told", 2)]), Program(1, [("told", 3)]), Program(1, [("told", 2), ("told", 2)]),
                      Program(1, [("column", 0)])):
            self.assertIs(Program(1, [("told", 2)]) == other, False)
            self.assertIs(Program(1, [("told", 2)]) != other, True)
        two = [("told", 2), ("told", 2)]
        self.assertIs(Program(0, two + [("sum", 0, 1)]) == Program(0, two + [("sum", 1, 0)]), False)
        self.assertIs(Program(0, two + [("ahead", 0)]) == Program(0, two + [("behind", 0)]), False)

    def test_nothing_else_is_equal(self):
        for value in NO_PROGRAMS + [[("column", 0)]]:
            self.assertIs(ONE == value, False)
            self.assertIs(ONE != value, True)


class ResultsTest(Case):
    def test_each_kind_of_step(self):
        table = Table(2, [[1, 5], [2, Ratio(1, 2)], [4, -3]])
        for steps, wanted in [
                ([("column", 0)], [1, 2, 4]), ([("column", 1)], [5, Fraction(1, 2), -3]), ([("told", 7)], [7, 7, 7]),
                ([("column", 0), ("column", 1), ("sum", 0, 1)], [6, Fraction(5, 2), 1]),
                ([("column", 0), ("column", 1), ("less", 0, 1)], [-4, Fraction(3, 2), 7]),
                ([("column", 0), ("column", 1), ("less", 1, 0)], [4, Fraction(-3, 2), -7]),
                ([("column", 0), ("column", 1), ("times", 0, 1)], [5, 1, -12]),
                ([("column", 0), ("ahead", 0)], [0, 1, 3]), ([("column", 0), ("behind", 0)], [6, 4, 0]),
                ([("told", 1), ("ahead", 0), ("ahead", 1)], [0, 0, 1]),
                ([("told", 1), ("behind", 0), ("behind", 1)], [1, 0, 0]),
                ([("column", 1), ("ahead", 0), ("behind", 1)], [Fraction(21, 2), Fraction(11, 2), 0])]:
            program = Program(2, steps)
            self.worths(results(program, table), wanted)
            self.worth(total(program, table), sum(wanted))

    def test_sums_of_sums_ahead_of_1(self):
        program = Program(0, [("told", 1), ("ahead", 0), ("ahead", 1)])
        self.worths(results(program, Table(0, [[]] * 40)), [(i - 1) * (i - 2) // 2 for i in range(1, 41)])

    def test_against_sums_worked_out_here(self):
        for program, table in some_pairs():
            steps, rows = program.steps(), rows_of(table)
            wanted = [column_of(steps, at, rows) for at in range(len(steps))]
            found = all_results(program, table)
            self.assertIs(type(found), list)
            self.same(len(found), len(steps))
            for one, other in zip(found, wanted):
                self.worths(one, other)
            self.worths(results(program, table), wanted[-1])
            self.worth(total(program, table), sum(wanted[-1]))
            self.assertEqual(results(table=table, program=program), found[-1])
            self.assertEqual(all_results(table=table, program=program), found)
            self.assertEqual(total(table=table, program=program), Ratio.total(found[-1]))

    def test_without_rows(self):
        for columns in range(4):
            program = Program(columns, [("told", 1), ("ahead", 0), ("behind", 1), ("times", 1, 2)])
            self.same(results(program, Table(columns, [])), [])
            self.same(all_results(program, Table(columns, [])), [[], [], [], []])
            self.same(total(program, Table(columns, [])), Ratio(0))

    def test_one_row(self):
        program = Program(1, [("column", 0), ("ahead", 0), ("behind", 0)])
        self.same(all_results(program, Table(1, [[5]])), [[Ratio(5)], [Ratio(0)], [Ratio(0)]])

    def test_what_is_told_is_new(self):
        program = Program(1, [("column", 0), ("column", 0), ("ahead", 0)])
        self.is_new(results, program, SHORT)
        self.is_new(all_results, program, SHORT)
        self.same(SHORT.rows(), [[Ratio(2)], [Ratio(1, 2)], [Ratio(3)]])

    def test_errors(self):
        for function in (results, all_results, total):
            self.refuses_each(function, {"program": ONE, "table": SHORT},
                              {"program": (InvalidProgram, NO_PROGRAMS), "table": (InvalidTable, NO_TABLES)})

    def test_unlike_columns(self):
        for function in (results, all_results, total):
            for columns in range(4):
                for others in range(4):
                    program, table = Program(columns, [("told", 1)]), Table(others, [])
                    if columns == others:
                        function(program, table)
                    else:
                        self.raised(UnlikeColumns, function, program, table)
            self.raised(UnlikeColumns, function, ONE, Table(2, [[1, 2]]))


class MirroredTest(Case):
    def test_ahead_and_behind_change_places(self):
        steps = [("column", 0), ("ahead", 0), ("behind", 1), ("less", 2, 1), ("told", Ratio(2)), ("ahead", 4)]
        wanted = [("column", 0), ("behind", 0), ("ahead", 1), ("less", 2, 1), ("told", Ratio(2)), ("behind", 4)]
        program = Program(2, steps)
        self.same(mirrored(program).steps(), wanted)
        self.same(mirrored(program).columns, 2)
        self.same(program.steps(), steps)

    def test_twice(self):
        for program, _ in some_pairs():
            self.assertEqual(mirrored(program=mirrored(program)), program)

    def test_results_over_the_turned_table(self):
        for program, table in some_pairs():
            self.same(results(mirrored(program), turned(table)), results(program, table)[::-1])
            self.same(all_results(mirrored(program), turned(table)),
                      [made[::-1] for made in all_results(program, table)])

    def test_errors(self):
        self.refuses_each(mirrored, {"program": ONE}, {"program": (InvalidProgram, NO_PROGRAMS)})


class PutIntoTest(Case):
    def test_the_steps(self):
        program = Program(2, [("column", 1), ("told", 5), ("column", 0), ("sum", 0, 2), ("column", 1), ("times", 3, 4),
                              ("ahead", 1), ("less", 6, 5)])
        first = Program(1, [("column", 0), ("ahead", 0)])
        second = Program(1, [("told", 2), ("column", 0), ("times", 0, 1)])
        found = put_into(program, 1, [first, second])
        self.same(found.columns, 1)
        self.same(found.steps(), [
            ("column", 0), ("ahead", 0), ("told", Ratio(2)), ("column", 0), ("times", 2, 3),
            ("told", Ratio(5)), ("sum", 4, 1), ("times", 6, 4), ("ahead", 5), ("less", 8, 7)])
        self.assertEqual(put_into(program, 1, (first, second)), found)
        self.assertEqual(put_into(others=[first, second], columns=1, program=program), found)

    def test_a_last_step_that_takes_a_column(self):
        inner = [Program(2, [("column", 1), ("ahead", 0)]), Program(2, [("told", 3)])]
        taken = inner[0].steps() + inner[1].steps()
        for own, behind in [
                ([("column", 0)], [("told", Ratio(0)), ("sum", 1, 3)]),
                ([("column", 1)], [("told", Ratio(0)), ("sum", 2, 3)]),
                ([("told", 8), ("column", 0)], [("told", Ratio(8)), ("told", Ratio(0)), ("sum", 1, 4)]),
                ([("column", 1), ("ahead", 0), ("column", 1)], [("ahead", 2), ("told", Ratio(0)), ("sum", 2, 4)])]:
            self.same(put_into(Program(2, own), 2, inner).steps(), taken + behind)

    def test_no_columns(self):
        program = Program(0, [("told", 1), ("ahead", 0)])
        for columns in range(4):
            found = put_into(program, columns, [])
            self.same((found.columns, found.steps()), (columns, program.steps()))
            self.assertEqual(put_into(program, columns, ()), found)
        found = put_into(Program(1, [("column", 0), ("ahead", 0)]), 0, [Program(0, [("told", 2)])])
        self.same((found.columns, found.steps()), (0, [("told", Ratio(2)), ("ahead", 0)]))

    def test_results_are_those_over_the_others_columns(self):
        chance = random.Random(15)
        for turn in range(120):
            many, columns = turn % 4, (turn // 4) % 4
            program = Program(many, some_steps(chance, many, 1 + turn % 7))
            others = [Program(columns, some_steps(chance, columns, 1 + chance.randrange(4))) for _ in range(many)]
            table = some_table(chance, columns, turn % 5)
            made = [results(other, table) for other in others]
            between = Table(many, [[column[at] for column in made] for at in range(table.height)])
            self.same(results(put_into(program, columns, others), table), results(program, between))

    def test_200_steps(self):
        for own, other, is_kept in [(101, 100, True), (102, 100, False), (2, 199, True), (2, 200, False), (1, 198, True),
                                    (1, 199, False), (1, 200, False), (200, 1, True), (200, 2, False)]:
            steps = [("column", 0)] + [("ahead", at) for at in range(own - 1)]
            outer, inner = Program(1, steps), Program(0, [("told", 1)] * other)
            if is_kept:
                self.same(len(put_into(outer, 0, [inner]).steps()), 200)
            else:
                self.too_many("steps", 200, put_into, outer, 0, [inner])
        full = Program(1, [("told", 1)] * 200)
        self.too_many("steps", 200, put_into, Program(3, [("column", 0), ("ahead", 0)]), 1, [full, full, full])

    def test_what_is_passed_stays(self):
        others = [Program(1, [("told", 3)])]
        self.leaves(lambda passed: put_into(ONE, 1, passed), others)
        self.same(ONE.steps(), [("column", 0)])
        self.same(others[0].steps(), [("told", Ratio(3))])

    def test_errors(self):
        two = Program(2, [("told", 1)])
        no_others = odd_values() + [0, 1, ONE, [], (), [ONE, ONE], [two], [None], [True], [[ONE]], [("told", 1)],
                                    [Program(0, [("told", 1)])]]
        self.refuses_each(put_into, {"program": ONE, "columns": 1, "others": [ONE]},
                          {"program": (InvalidProgram, NO_PROGRAMS), "columns": (InvalidColumns, no_columns()),
                           "others": (InvalidOthers, no_others)})
        for wrong in ([ONE, two], [two, ONE], (ONE, None), [ONE], [ONE, ONE, ONE]):
            self.refuses(InvalidOthers, wrong, put_into, two, 1, wrong)
        self.refuses(InvalidOthers, [ONE], put_into, Program(0, [("told", 1)]), 1, [ONE])

    def test_too_many_comes_last(self):
        full = Program(1, [("told", 1)] * 200)
        self.refuses(InvalidOthers, [full, full], put_into, ONE, 1, [full, full])
        self.refuses(InvalidColumns, 4, put_into, ONE, 4, [full])


if __name__ == "__main__":
    unittest.main()
