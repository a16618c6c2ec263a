"""Tables, programs, tallies, forms, runs and words, written as texts."""

from aheadsums.forms import need_form
from aheadsums.programs import need_program
from aheadsums.runs import need_runs
from aheadsums.tables import need_table
from aheadsums.tallies import need_tally
from aheadsums.words import need_word


def word_text(columns, word):
    """The word, written."""
    need_word(columns, word)
    return written_word(word)


def written_word(word):
    """The letters, one right behind the other, `-` for none."""
    if not word:
        return "-"
    return "".join([written_letter(letter) for letter in word])


def written_letter(letter):
    """The powers in parentheses."""
    return "(" + ",".join([str(power) for power in letter]) + ")"


def table_text(table):
    """The table, written."""
    need_table(table)
    return _lines("table", table, [["row"] + _numerals(row) for row in table.rows()])


def program_text(program):
    """The program, written."""
    need_program(program)
    return _lines("program", program, [[step[0]] + _numerals(step[1:]) for step in program.steps()])


def tally_text(tally):
    """The tally, written."""
    need_tally(tally)
    return _lines("tally", tally, [[str(factor), written_word(word)] for word, factor in tally.parts()])


def form_text(form):
    """The form, written."""
    need_form(form)
    return _lines("form", form, [[str(factor), written_word(left), "<", written_letter(own), ">", written_word(right)]
                                 for (left, own, right), factor in form.parts()])


def runs_text(runs):
    """The runs, written."""
    need_runs(runs)
    return _lines("runs", runs, [[str(many), "times"] + _numerals(row) for row, many in runs.lots()])


def _numerals(numbers):
    return [str(number) for number in numbers]


def _lines(word, thing, lines):
    """A first line of the word and the thing's columns, and the others of parts with one blank between."""
    return "\n".join([" ".join(parts) for parts in [[word, str(thing.columns)]] + lines])
