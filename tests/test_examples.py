"""The examples of the document, just as they stand there."""

import doctest
import unittest

EXAMPLES = r'''
>>> from aheadsums.ratios import Ratio
>>> [Ratio(4, -6), str(Ratio(1, 2) + 3), Ratio(1, 3).is_below(Ratio(2, 5))]
[Ratio(-2, 3), '7/2', True]
>>> from aheadsums.tables import Table, exchanged, joined, piece, turned, with_row, without_row
>>> short = Table(1, [[2], [Ratio(1, 2)], [3]])
>>> [short.columns, short.height, [str(row[0]) for row in turned(short).rows()], piece(short, 1, 1) == Table(1, []), joined(short, piece(short, 0, 1)).height, with_row(without_row(short, 0), 0, [2]) == short, str(exchanged(short, 1).rows()[2][0])]
[1, 3, ['3', '1/2', '2'], True, 4, True, '1/2']
>>> from aheadsums.programs import Program, all_results, mirrored, put_into, results, total
>>> square = Program(1, [("column", 0), ("ahead", 0), ("times", 1, 1)])
>>> [[str(number) for number in results(square, short)], [str(number) for number in all_results(mirrored(square), short)[1]], str(total(square, short)), results(square, Table(1, []))]
[['0', '4', '25/4'], ['7/2', '3', '0'], '41/4', []]
>>> [put_into(square, 0, [Program(0, [("told", 1)])]).steps() == [("told", Ratio(1)), ("ahead", 0), ("times", 1, 1)], put_into(Program(1, [("column", 0)]), 1, [square]).steps()[3:] == [("told", Ratio(0)), ("sum", 2, 3)]]
[True, True]
>>> from aheadsums.tables import Table
>>> from aheadsums.words import cuts, is_letter, is_word, letter_worth, multiplied, sums_ahead, sums_behind, turned_word, word_sum
>>> few = Table(1, [[2], [Ratio(1, 2)], [3]])
>>> [str(word_sum(few, ((1,), (1,)))), str(word_sum(few, ())), [str(one) for one in sums_ahead(few, ((1,),))], [str(one) for one in sums_behind(few, ((1,),))], str(letter_worth(2, (2, 0), [3, 0]))]
['17/2', '1', ['0', '2', '5/2', '11/2'], ['11/2', '7/2', '3', '0'], '9']
>>> [multiplied(2, (1, 0), (8, 2)), cuts(1, ((1,), (2,))), turned_word(0, ((), ())), is_letter(0, ()), is_letter(2, (1,)), is_word(1, ()), is_word(1, [(1,)])]
[(9, 2), [((), ((1,), (2,))), (((1,),), ((2,),)), (((1,), (2,)), ())], ((), ()), True, False, True, False]
>>> from aheadsums.lacings import how_many, lacings
>>> [how_many(1, 1), how_many(2, 1), how_many(0, 8), how_many(8, 8), lacings(1, ((1,),), ((1,),)), lacings(0, ((),), ((),)), lacings(1, (), ((3,),))]
[3, 5, 1, 265729, [(((1,), (1,)), 2), (((2,),), 1)], [(((),), 1), (((), ()), 2)], [(((3,),), 1)]]
>>> from aheadsums.tallies import Tally, tally_plus, tally_product, tally_times, tally_turned, tally_worth
>>> few, x = Table(1, [[2], [Ratio(1, 2)], [3]]), Tally(1, [(((1,),), 1)])
>>> [(word, str(factor)) for word, factor in tally_product(x, x).parts()]
[(((1,), (1,)), '2'), (((2,),), '1')]
>>> [str(tally_worth(x, few)), str(tally_worth(tally_product(x, x), few)), tally_plus(x, tally_times(x, -1)).length, tally_turned(Tally(1, [(((1,), (0,)), 1)])).parts()[0][0], Tally(0, [((), 1), ((), Ratio(1, 2))]).parts() == [((), Ratio(3, 2))]]
['11/2', '121/4', -1, ((0,), (1,)), True]
>>> from aheadsums.forms import Form, ahead_of, behind_of, form_plus, form_product, form_times, form_total, form_turned, form_worths
>>> own, late = Form(1, [(((), (1,), ()), 1)]), Form(1, [(((), (0,), ((1,),)), 1)])
>>> [behind_of(own) == late, form_turned(late) == ahead_of(own), [str(one) for one in form_worths(late, few)], [term for term, factor in ahead_of(late).parts()], ahead_of(late).length]
[True, True, ['7/2', '3', '0'], [(((0,),), (0,), ((1,),)), (((0,),), (1,), ()), (((0,), (1,)), (0,), ())], 3]
>>> [str(tally_worth(form_total(form_product(own, late)), few)), form_product(own, own).parts()[0][0], form_plus(late, form_times(late, -1)).length]
['17/2', ((), (2,), ()), 0]
>>> from aheadsums.forms import Form
>>> from aheadsums.making import first_alike, form_of, form_put_into, program_of
>>> square = Program(1, [("column", 0), ("ahead", 0), ("times", 1, 1)])
>>> [(term, str(number)) for term, number in form_of(square).parts()]
[((((1,), (1,)), (0,), ()), '2'), ((((2,),), (0,), ()), '1')]
>>> own, rank = Form(1, [(((), (1,), ()), 1)]), Form(1, [((((0,),), (0,), ()), 1)])
>>> [form_of(program_of(form_of(square))) == form_of(square), form_put_into(rank, 1, [own]) == rank, first_alike(Program(1, [("column", 0), ("ahead", 0), ("sum", 0, 1), ("sum", 1, 0), ("less", 2, 1)])), [(term, str(number)) for term, number in form_put_into(form_of(square), 0, [Form(0, [(((), (), ()), 3)])]).parts()]]
[True, True, [0, 1, 2, 2, 0], [((((),), (), ()), '9'), ((((), ()), (), ()), '18')]]
>>> from aheadsums.tables import Table
>>> from aheadsums.telling import asked, fits, told_back
>>> [asked(1, 1, 1) == [Table(1, [[0]]), Table(1, [[1]])], len(asked(1, 2, 1)), told_back(0, 2, 0, [[0], [0, 1]]) == Form(0, [((((),), (), ()), 1)]), told_back(1, 1, 1, [[2], [5]]) == Form(1, [(((), (0,), ()), 2), (((), (1,), ()), 3)]), fits(form_of(square), 2, 2), fits(form_of(square), 3, 2), fits(rank, 2, 0)]
[True, 6, True, True, False, True, True]
>>> from aheadsums.alikes import is_parting, least_unlike, parting, parting_rows
>>> from aheadsums.forms import Form
>>> from aheadsums.tables import Table
>>> own, both = Form(1, [(((), (1,), ()), 1)]), Form(1, [(((), (1,), ()), 1), ((((1,),), (0,), ()), 1)])
>>> [parting_rows(own, both), least_unlike(own, both), parting_rows(both, both), parting(own, own), least_unlike(own, own)]
[2, [(((1,),), (0,), ())], None, None, []]
>>> [is_parting(own, both, parting(own, both)), parting(own, both)[0].height, is_parting(own, both, (Table(1, [[1], [0]]), 1)), is_parting(own, both, (Table(1, [[1], [0]]), 0)), is_parting(own, both, [Table(1, [[1], [0]]), 1])]
[True, 2, True, False, False]
>>> from aheadsums.hangs import change, hangs_on, is_change, is_moving, moving, stays
>>> [stays(both, "behind"), stays(both, "ahead"), moving(both, "behind"), is_moving(both, "ahead", moving(both, "ahead")), is_moving(both, "ahead", (Table(1, [[0]]), [1], 0)), is_moving(both, "ahead", (Table(1, [[0]]), [0], 0))]
[True, False, None, True, True, False]
>>> [hangs_on(both, "ahead", 0), hangs_on(own, "ahead", 0), hangs_on(own, "own", 0), change(own, "behind", 0), is_change(both, "ahead", 0, (Table(1, [[1], [0]]), Table(1, [[2], [0]]), 1)), is_change(both, "ahead", 0, (Table(1, [[1], [0]]), Table(1, [[1], [2]]), 1)), is_change(both, "own", 0, change(both, "own", 0))]
[True, False, True, None, True, False, True]
>>> from aheadsums.orders import exchange, exchange_at, is_exchange, is_exchange_at, is_free_at, is_order_free, mean_of_orders
>>> both, alone = Tally(1, [(((0,), (1,)), 1), (((1,), (0,)), 1)]), Tally(1, [(((1,), (0,)), 2)])
>>> [is_order_free(both), is_order_free(alone), mean_of_orders(alone) == both, exchange(both), is_exchange(alone, (Table(1, [[1], [2]]), 0)), is_exchange(alone, exchange(alone)), exchange(alone)[0].height]
[True, False, True, None, True, True, 2]
>>> count, beyond = ((((0,),), (0,), ()), 1), (((), (0,), ((0,),)), 1)
>>> [is_free_at(Form(1, [count, beyond])), is_free_at(Form(1, [count])), is_exchange_at(Form(1, [count]), (Table(1, [[5], [5]]), 0, 0)), exchange_at(Form(1, [count]))[0].height]
[True, False, True, 2]
>>> from aheadsums.totals import in_totals, polynomial_worth
>>> [in_totals(both) == [([((0,),), ((1,),)], Ratio(1)), ([((1,),)], Ratio(-1))], in_totals(alone), str(polynomial_worth(Table(1, [[1], [2]]), in_totals(both))), str(polynomial_worth(Table(1, []), [([], 7)]))]
[True, None, '3', '7']
>>> from aheadsums.lyndons import falling, in_lyndons, is_lyndon, is_told_by
>>> [is_lyndon(1, ((0,), (1,))), is_lyndon(1, ((1,), (0,))), falling(1, ((1,), (0,), (1,))), falling(1, ())]
[True, False, [((1,),), ((0,), (1,))], []]
>>> [in_lyndons(alone) == [([((0,),), ((1,),)], Ratio(2)), ([((0,), (1,))], Ratio(-2)), ([((1,),)], Ratio(-2))], is_told_by(alone, [((0,),), ((1,),)]), is_told_by(both, [((1,),), ((0,),)])]
[True, False, True]
>>> from aheadsums.ratios import Ratio
>>> from aheadsums.readers import Reader, are_alike, is_reader_parting, read, reader_parting
>>> from aheadsums.tables import Table
>>> adding = Reader(1, [1, 0], [((0,), [[1, 0], [0, 1]]), ((1,), [[0, 1], [0, 0]])], [((0,), [0, 1])])
>>> [adding.cells, [str(number) for number in read(adding, Table(1, [[2], [Ratio(1, 2)], [3]]))], adding.last() == [((0,), [Ratio(0), Ratio(1)])], read(Reader(0, [], [], []), Table(0, [[], []])) == [Ratio(0), Ratio(0)]]
[2, ['0', '2', '5/2'], True, True]
>>> once = Reader(1, [1], [], [((0,), [1])])
>>> [are_alike(adding, once), reader_parting(adding, adding), is_reader_parting(adding, once, (Table(1, [[0]]), 0)), is_reader_parting(adding, once, reader_parting(adding, once)), is_reader_parting(adding, once, (Table(1, [[1], [5], [0]]), 2))]
[False, None, True, True, True]
>>> from aheadsums.fewest import cells_paper, fewest_cells, is_cells_paper, lessened, reader_of, tells
>>> from aheadsums.forms import Form
>>> so_far, square = Form(1, [((((1,),), (0,), ()), 1)]), Form(1, [((((1,), (1,)), (0,), ()), 2), ((((2,),), (0,), ()), 1)])
>>> [tells(adding, so_far), tells(adding, square), fewest_cells(so_far), fewest_cells(square), reader_of(square).cells, tells(reader_of(square), square), fewest_cells(Form(1, [])), lessened(Reader(1, [1, 1], [], [((0,), [2, 3])])).cells]
[True, False, 2, 3, 3, True, 0, 1]
>>> [is_cells_paper(so_far, ([Table(1, []), Table(1, [[1]])], [Table(1, [[0]]), Table(1, [[1], [0]])])), is_cells_paper(so_far, ([Table(1, []), Table(1, [])], [Table(1, [[0]]), Table(1, [[1], [0]])])), is_cells_paper(square, cells_paper(square))]
[True, False, True]
>>> from aheadsums.sides import is_meeting, meeting, side_numbers
>>> from aheadsums.tallies import Tally
>>> both, x = Form(1, [((((1,),), (0,), ((1,),)), 3)]), Tally(1, [(((1,),), 1)])
>>> [side_numbers(both), side_numbers(square), is_meeting(both, ([x], [x], [((0,), [[3]])])), is_meeting(both, ([x], [x], [((0,), [[1]])])), is_meeting(square, meeting(square)), is_meeting(Form(1, []), meeting(Form(1, [])))]
[(1, 1), (1, 1), True, False, True, True]
>>> from aheadsums.pieces import is_piece_paper, joined_numbers, joining, kept_numbers, kept_tallies, piece_paper, whole_numbers
>>> from aheadsums.ratios import Ratio
>>> from aheadsums.tables import Table
>>> from aheadsums.tallies import Tally, tally_worth
>>> pairs, rows, more = Tally(1, [(((1,), (1,)), 1)]), Table(1, [[2], [3]]), Table(1, [[5]])
>>> [[one.parts() for one in kept_tallies(pairs)] == [[((), Ratio(1))], [(((1,),), Ratio(1))], [(((1,), (1,)), Ratio(1))]], whole_numbers(pairs) == [Ratio(0), Ratio(0), Ratio(1)], [str(one) for one in kept_numbers(pairs, rows)], kept_tallies(Tally(1, []))]
[True, True, ['1', '5', '6'], []]
>>> [[str(one) for one in joined_numbers(pairs, [1, 5, 6], kept_numbers(pairs, more))], [[str(one) for one in row] for row in joining(pairs)[2]], is_piece_paper(pairs, piece_paper(pairs)), is_piece_paper(pairs, ([rows], [(more, more)])), is_piece_paper(pairs, ([], []))]
[['1', '10', '31'], [['0', '0', '1'], ['0', '1', '0'], ['1', '0', '0']], True, True, True]
>>> from aheadsums.forms import Form
>>> from aheadsums.runs import Runs, first_unlike, laid_out, put_changes, run_result, run_worth
>>> long, sofar = Runs(1, [([2], 10 ** 20), ([Ratio(1, 2)], 2)]), Form(1, [((((1,),), (0,), ()), 1)])
>>> [long.many(), str(run_worth(pairs, Runs(1, [([1], 10 ** 6)]))), str(run_result(sofar, long, 10 ** 20 + 1)), laid_out(Runs(1, [([2], 1), ([7], 0), ([3], 1)])) == rows]
[100000000000000000002, '499999500000', '400000000000000000001/2', True]
>>> [[str(one) for one in put_changes(sofar, rows, 1, [7])], first_unlike(sofar, Form(1, []), [2]), first_unlike(sofar, Form(1, []), [0])]
[['0', '7'], 2, None]
>>> from aheadsums.texts import form_text, program_text, table_text, tally_text, word_text
>>> from aheadsums.forms import Form
>>> from aheadsums.programs import Program
>>> from aheadsums.tallies import Tally
>>> square = Program(1, [("column", 0), ("ahead", 0), ("times", 1, 1)])
>>> [word_text(2, ((1, 0), (0, 2))), word_text(0, ((),)), word_text(1, ()), table_text(Table(2, [[1, Ratio(-1, 2)]])), table_text(Table(0, [[]])), program_text(square), tally_text(Tally(1, [(((1,), (1,)), 2), ((), Ratio(-1, 2))])), form_text(Form(1, [((((1,),), (0,), ()), 2)]))]
['(1,0)(0,2)', '()', '-', 'table 2\nrow 1 -1/2', 'table 0\nrow', 'program 1\ncolumn 0\nahead 0\ntimes 1 1', 'tally 1\n-1/2 -\n2 (1)(1)', 'form 1\n2 (1) < (0) > -']
>>> from aheadsums.parses import read_form, read_program, read_table, read_tally, read_word
>>> [read_word(1, "(1)(0)"), read_program("program 1\ncolumn 0\nahead 0\ntimes 1 1") == square, read_table("table 1\nrow 6/4").rows() == [[Ratio(3, 2)]], read_tally("tally 1\n1 (1)\n1 (1)").parts() == [(((1,),), Ratio(2))], read_form("form 0\n0 - < () > -").parts()]
[((1,), (0,)), True, True, True, []]
>>> from aheadsums.claims import contrary, is_claim, is_paper_of, is_true, paper_of
>>> before, bare = read_form("form 1\n1 (1) < (0) > -"), read_form("form 1\n1 - < (0) > -")
>>> [is_true(("alike", before, before)), is_true(("stays", before, "behind")), is_true(("stays", before, "ahead")), is_paper_of(("unlike", before, bare), (Table(1, [[5]]), 0)), is_paper_of(("moves", before, "ahead"), paper_of(("moves", before, "ahead"))), is_claim(("alike", before, read_form("form 0")))]
[True, True, False, True, True, False]
>>> [is_true(("orderfree", read_tally("tally 1\n1 (1)(1)"))), contrary(("reads", before, 2))[0], is_true(("reads", before, 2)), is_true(("reads", before, 1))]
[True, 'needs', True, False]
>>> from aheadsums.commands import is_command, is_deed
>>> [is_command("table t 1 2;1/2;3"), is_command("table t 0 -;-"), is_command("put t 1 2/4"), is_command("program p 1 column,0;ahead,0"), is_command("form f 2 (1,0)(0,1)<(0,0)>-:1/2"), is_command("tally w 0 ()():1"), is_deed("sum p t"), is_command("claim k stays f own"), is_deed("claim k reads f 3")]
[True, True, False, True, True, True, False, False, True]
>>> from aheadsums.desk import Desk
>>> desk = Desk()
>>> desk.do_all("table t 1 2;1/2;3", "program p 1 column,0;ahead,0;times,1,1", "results p t", "make f p", "show f", "form g 1 (1)(1)<(0)>-:2", "claim k unlike f g", "parts f g", "cells f", "swap t 0", "show t")
['-', '-', '0,4,25/4', '-', '1 (1)(1)<(0)>-:2;(2)<(0)>-:1', '-', 'k true', '2', '3', '-', '1 1/2;2;3']
>>> desk.do_all("form h 1 (2)<(0)>-:1", "plus e g h", "same e f", "drop g", "copy g f", "states", "undo", "undo", "total w h", "show w", "free w")
['-', '-', 'yes', 'k gone', 'k false', 'k false', 'copy g f', 'drop g', '-', '1 (2)(0):1', 'no']
'''


class ExamplesTest(unittest.TestCase):
    def test_each_example(self):
        told = doctest.DocTestParser().get_doctest(EXAMPLES, {}, "DOC.md", "DOC.md", 0)
        lines = []
        ran = doctest.DocTestRunner(verbose=False).run(told, out=lines.append)
        self.assertEqual(ran.failed, 0, "".join(lines))
        self.assertEqual(ran.attempted, EXAMPLES.count(">>> "))


if __name__ == "__main__":
    unittest.main()
