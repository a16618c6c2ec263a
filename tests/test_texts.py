"""Things written as texts and read from texts: points 91 and 92 of the document."""

import random
import re
import unittest
from fractions import Fraction

from aheadsums.errors import (InvalidColumns, InvalidForm, InvalidProgram, InvalidRuns, InvalidTable, InvalidTally,
                              InvalidText, InvalidWord)
from aheadsums.forms import Form
from aheadsums.parses import read_form, read_program, read_runs, read_table, read_tally, read_word
from aheadsums.programs import Program
from aheadsums.ratios import Ratio
from aheadsums.runs import Runs
from aheadsums.tables import Table
from aheadsums.tallies import Tally
from aheadsums.texts import form_text, program_text, runs_text, table_text, tally_text, word_text
from tests.helping import (Case, fraction, letters_of, no_columns, no_forms, no_runs, no_tables, no_tallies, no_words,
                           odd_values, some_form, some_runs, some_steps, some_table, some_tally, some_word)

NUMERAL = "(?:0|[1-9][0-9]{0,399})"
NUMBER = "(?:0|-?[1-9][0-9]{0,399})(?:/[1-9][0-9]{0,399})?"
READ = {"table": read_table, "program": read_program, "tally": read_tally, "form": read_form, "runs": read_runs}
WRITE = {"table": table_text, "program": program_text, "tally": tally_text, "form": form_text, "runs": runs_text}
MOST = {"table": 40, "program": 200, "tally": 400, "form": 400, "runs": 12}


def plain(number):
    """A number as a Fraction tells it."""
    return str(fraction(number))


def plain_word(word):
    return "".join(["(" + ",".join([str(power) for power in letter]) + ")" for letter in word]) or "-"


def plain_text(sort, thing):
    """The written text, by the words of point 91."""
    lines = [f"{sort} {thing.columns}"]
    if sort == "table":
        lines += ["row" + "".join([" " + plain(number) for number in row]) for row in thing.rows()]
    elif sort == "program":
        for step in thing.steps():
            lines.append(step[0] + "".join([" " + (plain(part) if step[0] == "told" else str(part))
                                            for part in step[1:]]))
    elif sort == "tally":
        lines += [plain(factor) + " " + plain_word(word) for word, factor in thing.parts()]
    elif sort == "form":
        lines += [f"{plain(factor)} {plain_word(left)} < {plain_word((own,))} > {plain_word(right)}"
                  for (left, own, right), factor in thing.parts()]
    else:
        lines += [f"{many} times" + "".join([" " + plain(number) for number in row]) for row, many in thing.lots()]
    return "\n".join(lines)


def letter_pattern(columns):
    return r"\(" + ",".join(["[0-8]"] * columns) + r"\)"


def word_pattern(columns):
    return "(?:-|(?:" + letter_pattern(columns) + "){1,8})"


def is_line(sort, columns, at, line):
    """Whether a line might have been written at this place behind the first line, by the words of point 92."""
    numbers = "".join([" " + NUMBER] * columns)
    if at >= MOST[sort]:
        return False
    if sort == "table":
        return bool(re.fullmatch("row" + numbers, line))
    if sort == "tally":
        return bool(re.fullmatch(NUMBER + " " + word_pattern(columns), line))
    if sort == "form":
        word = word_pattern(columns)
        found = re.fullmatch(f"{NUMBER} {word} < {letter_pattern(columns)} > {word}", line)
        return bool(found) and line.count("(") <= 8
    if sort == "runs":
        found = re.fullmatch(f"({NUMERAL}) times" + numbers, line)
        return bool(found) and int(found.group(1)) <= 10 ** 30
    found = re.fullmatch(f"(ahead|behind) ({NUMERAL})|(sum|less|times) ({NUMERAL}) ({NUMERAL})|column ({NUMERAL})|"
                         f"told {NUMBER}", line)
    if not found:
        return False
    places = [int(found.group(k)) for k in (2, 4, 5) if found.group(k) is not None]
    column = found.group(6)
    return all(place < at for place in places) and (column is None or int(column) < columns)


def wrong_line(sort, text):
    """The wrong line by the words of point 92; None of a readable text."""
    lines = text.split("\n")
    found = re.fullmatch(sort + " ([0-3])", lines[0])
    if not found:
        return 1
    columns = int(found.group(1))
    for at, line in enumerate(lines[1:]):
        if not is_line(sort, columns, at, line):
            return at + 2
    return 2 if sort == "program" and len(lines) == 1 else None


def letters_in(text):
    letters = re.findall(r"\([^)]*\)", text)
    return tuple(tuple(int(power) for power in re.findall("[0-8]", letter)) for letter in letters)


def told_by(sort, text):
    """What a readable text tells, made out of its lines."""
    lines = text.split("\n")
    columns = int(lines[0].split(" ")[1])
    parts = [line.split(" ") for line in lines[1:]]

    def number(numeral):
        worth = Fraction(numeral)
        return Ratio(worth.numerator, worth.denominator)

    if sort == "table":
        return Table(columns, [[number(one) for one in row[1:]] for row in parts])
    if sort == "program":
        return Program(columns, [(step[0],) + tuple(number(one) if step[0] == "told" else int(one) for one in step[1:])
                                 for step in parts])
    if sort == "tally":
        return Tally(columns, [(letters_in(part[1]), number(part[0])) for part in parts])
    if sort == "form":
        return Form(columns, [((letters_in(part[1]), letters_in(part[3])[0], letters_in(part[5])), number(part[0]))
                              for part in parts])
    return Runs(columns, [([number(one) for one in part[2:]], int(part[0])) for part in parts])


def some_thing(chance, sort, columns):
    if sort == "table":
        return some_table(chance, columns, chance.randrange(5))
    if sort == "program":
        return Program(columns, some_steps(chance, columns, chance.randrange(1, 8)))
    if sort == "tally":
        return some_tally(chance, columns, 4)
    if sort == "form":
        return some_form(chance, columns, 4)
    return some_runs(chance, columns, 10 ** 3)


def bent(chance, text):
    """The text with a character left out, put in, doubled, exchanged, cut off, or a line doubled or left out."""
    way = chance.randrange(7)
    at = chance.randrange(len(text) + 1)
    if way == 0:
        return text[:at] + text[at + 1:]
    if way == 1:
        return text[:at] + chance.choice(" -/<>(),:;\n0123456789rowtimesaheadcolumn") + text[at:]
    if way == 2:
        return text[:at] + text[max(at - 1, 0):]
    if way == 3 and at + 1 < len(text):
        return text[:at] + text[at + 1] + text[at] + text[at + 2:]
    if way == 4:
        return text[:at]
    lines = text.split("\n")
    line = chance.randrange(len(lines))
    return "\n".join(lines[:line] + lines[line + 1:] if way == 5 else lines[:line] + lines[max(line - 1, 0):])


class TextCase(Case):
    def wrong(self, line, function, /, *args, **named):
        self.same(self.raised(InvalidText, function, *args, **named).line, line)


class WrittenTest(TextCase):
    def test_by_the_plain_rule(self):
        chance = random.Random(151)
        for turn in range(300):
            sort = list(WRITE)[turn % 5]
            thing = some_thing(chance, sort, turn % 4)
            text = WRITE[sort](thing)
            self.same(text, plain_text(sort, thing))
            self.assertIs(wrong_line(sort, text), None)
            read = READ[sort](text)
            self.assertEqual(read, thing)
            self.assertIs(type(read), type(thing))
            self.assertEqual([WRITE[sort](**{sort: thing}), READ[sort](text=text)], [text, thing])

    def test_nothing_and_no_columns(self):
        self.same([table_text(Table(0, [])), table_text(Table(0, [[], []])), tally_text(Tally(2, [])),
                   form_text(Form(3, [])), runs_text(Runs(1, [])), runs_text(Runs(0, [([], 10 ** 30)])),
                   tally_text(Tally(0, [(((), ()), 1)])), form_text(Form(0, [(((), (), ((),)), Ratio(-1, 3))]))],
                  ["table 0", "table 0\nrow\nrow", "tally 2", "form 3", "runs 1", f"runs 0\n{10 ** 30} times",
                   "tally 0\n1 ()()", "form 0\n-1/3 - < () > ()"])

    def test_words(self):
        chance = random.Random(152)
        for turn in range(150):
            word = some_word(chance, turn % 4, turn % 9, 8)
            text = word_text(turn % 4, word)
            self.same(text, plain_word(word))
            self.same(read_word(turn % 4, text), word)
            self.same(read_word(text=text, columns=turn % 4), word)
            self.same(word_text(word=word, columns=turn % 4), text)

    def test_at_the_bounds(self):
        chance = random.Random(153)
        great = Ratio(10 ** 6 - 1, 10 ** 6)
        things = {"table": Table(3, [[great] * 3] * 40), "program": Program(0, [("told", great)] * 200),
                  "tally": Tally(3, [((letter,) * 8, great) for letter in letters_of(3, range(9))[:400]]),
                  "form": Form(3, [(((letter,) * 4, letter, (letter,) * 3), great)
                                   for letter in letters_of(3, range(9))[:400]]),
                  "runs": Runs(3, [([great] * 3, 10 ** 30)] * 12)}
        for sort, thing in things.items():
            text = WRITE[sort](thing)
            self.assertEqual(READ[sort](text), thing)
            line = text.split("\n")[-1]
            self.wrong(MOST[sort] + 2, READ[sort], text + "\n" + line)
            self.wrong(MOST[sort] + 2, READ[sort], text + "\n" + line + "\n" + line)
            at = chance.randrange(MOST[sort]) + 1
            lines = text.split("\n")
            self.wrong(at + 1, READ[sort], "\n".join(lines[:at] + [lines[at] + " "] + lines[at + 1:]))

    def test_errors(self):
        for sort, wrong in (("table", (InvalidTable, no_tables())), ("tally", (InvalidTally, no_tallies())),
                            ("form", (InvalidForm, no_forms())), ("runs", (InvalidRuns, no_runs())),
                            ("program", (InvalidProgram, no_tables()))):
            thing = some_thing(random.Random(1), sort, 1)
            self.refuses_each(WRITE[sort], {sort: thing}, {sort: wrong})
        self.refuses_each(word_text, {"columns": 1, "word": ((1,),)},
                          {"columns": (InvalidColumns, no_columns()), "word": (InvalidWord, no_words())})


class ReadTest(TextCase):
    def test_other_texts_of_the_same(self):
        self.assertEqual(read_table("table 2\nrow 6/4 4/1\nrow 0/7 -6/4").rows(),
                         [[Ratio(3, 2), Ratio(4)], [Ratio(0), Ratio(-3, 2)]])
        self.assertEqual(read_tally("tally 1\n2/4 (1)\n3 -\n0 (7)\n1/2 (1)\n5 (2)(0)\n-3 -").parts(),
                         [(((1,),), Ratio(1)), (((2,), (0,)), Ratio(5))])
        self.assertEqual(read_form("form 0\n1 () < () > -\n1 - < () > -\n-1/1 () < () > -").parts(),
                         [(((), (), ()), Ratio(1))])
        self.assertEqual(read_program("program 0\ntold 10/4").steps(), [("told", Ratio(5, 2))])
        self.assertEqual(read_runs("runs 1\n0 times 6/4\n3 times 3/2").lots(),
                         [([Ratio(3, 2)], 0), ([Ratio(3, 2)], 3)])

    def test_parts_in_another_sequence_and_twice(self):
        chance = random.Random(154)
        for turn in range(100):
            sort = ("tally", "form")[turn % 2]
            thing = some_thing(chance, sort, turn % 4)
            lines = WRITE[sort](thing).split("\n")
            parts = []
            for line in lines[1:]:
                number, rest = line.split(" ", 1)
                share = Fraction(chance.randrange(-5, 6), chance.randrange(1, 5))
                for one in (share, Fraction(number) - share):
                    times = chance.randrange(1, 4)
                    parts.append(f"{one.numerator * times}/{one.denominator * times} {rest}")
            chance.shuffle(parts)
            self.assertEqual(READ[sort]("\n".join(lines[:1] + parts)), thing)

    def test_numerals_of_400_figures(self):
        great = "1" + "0" * 399
        self.assertEqual(read_table(f"table 1\nrow {great}").rows(), [[Ratio(10 ** 399)]])
        self.assertEqual(read_table(f"table 1\nrow -{great}/{great}").rows(), [[Ratio(-1)]])
        for number in (great + "0", "-" + great + "0", "1/" + great + "0"):
            self.wrong(2, read_table, f"table 1\nrow {number}")
        self.wrong(2, read_runs, f"runs 1\n{10 ** 30 + 1} times 1")
        self.wrong(2, read_runs, f"runs 1\n{great} times 1")
        self.wrong(2, read_program, f"program 1\ncolumn {great}")

    def test_numbers_that_are_none(self):
        for number in ("00", "01", "-0", "-0/5", "-01", "1/0", "1/-2", "1/02", "1/00", "1//2", "/2", "1/", "/", "", "-",
                       "--1", "+1", "1.0", "1e3", "0x1", "1_0", "a", "1/2/3", "-/2", "1 ", " 1", "(1)"):
            self.wrong(2, read_table, f"table 1\nrow {number}")
            self.wrong(3, read_tally, f"tally 1\n1 -\n{number} -")
            self.wrong(3, read_form, f"form 1\n1 - < (1) > -\n{number} - < (1) > -")
            self.wrong(2, read_program, f"program 1\ntold {number}")
            self.wrong(2, read_runs, f"runs 1\n1 times {number}")
            self.wrong(2, read_runs, f"runs 1\n{number} times 1")
        for number in ("-1", "1/2", "2/1", "0/1"):
            self.wrong(2, read_runs, f"runs 1\n{number} times 1")
            self.wrong(2, read_program, f"program 1\ncolumn {number}")

    def test_words_that_are_none(self):
        for word in ("", "()", "(9)", "(1,1)", "(1", "1)", "(1)-", "-(1)", "--", "(1) (1)", "(10)", "(01)", "( 1)",
                     "(1,)", "(,1)", "(-1)", "((1))", "(1)(", ")(1)", "(1)" * 9, "(1))((1)", "[1]", "1", "(a)"):
            self.wrong(1, read_word, 1, word)
            self.wrong(2, read_tally, f"tally 1\n1 {word}")
            self.wrong(2, read_form, f"form 1\n1 {word} < (1) > -")
            self.wrong(2, read_form, f"form 1\n1 - < (1) > {word}")
            self.wrong(2, read_form, f"form 1\n1 - < {word} > -")
        self.wrong(2, read_form, "form 1\n1 - < - > -")
        self.wrong(2, read_form, "form 1\n1 - < (1)(1) > -")
        self.wrong(3, read_form, "form 0\n1 ()()()() < () > ()()()\n1 ()()()() < () > ()()()()")
        for columns in (0, 2, 3):
            self.wrong(1, read_word, columns, "(1)")
        self.same([read_word(0, "()()"), read_word(3, "(1,2,8)"), read_word(2, "-")], [((), ()), ((1, 2, 8),), ()])

    def test_one_line_of_a_word(self):
        self.wrong(2, read_word, 1, "(1)\n(0)")
        self.wrong(2, read_word, 1, "-\n")
        self.wrong(1, read_word, 1, "\n-")
        self.wrong(1, read_word, 1, "(9)\n(0)")

    def test_first_lines(self):
        for sort, read in READ.items():
            behind = ["", " ", " 4", " 9", " -1", " 00", " 01", "  1", " 1 ", " 1 1", "1", " 1/1", "s 1"]
            for line in [sort + one for one in behind] + ["", " " + sort, sort.upper() + " 1", "row 1", "tables 1"]:
                self.wrong(1, read, line)
                self.wrong(1, read, line + "\n" + line)
            for other in READ:
                if other != sort:
                    self.wrong(1, read, other + " 1")

    def test_last_lines(self):
        for sort, read in READ.items():
            text = sort + " 1"
            if sort == "program":
                self.wrong(2, read, text)
                self.wrong(2, read, text + "\n")
                self.wrong(3, read, text + "\ntold 1\n")
            else:
                self.assertEqual(read(text), told_by(sort, text))
                self.wrong(2, read, text + "\n")
            self.wrong(2, read, text + "\n\n")

    def test_steps_at_their_positions(self):
        self.assertEqual(read_program("program 2\ncolumn 1\nahead 0\nsum 0 1\nbehind 2\nless 3 3\ntimes 0 4").steps(),
                         [("column", 1), ("ahead", 0), ("sum", 0, 1), ("behind", 2), ("less", 3, 3), ("times", 0, 4)])
        for line, step in ((2, "column 2"), (2, "ahead 0"), (2, "sum 0 0")):
            self.wrong(line, read_program, f"program 2\n{step}")
        for step in ("ahead 1", "behind 2", "sum 0 1", "less 1 0", "times 1 1", "column", "column 0 0", "ahead",
                     "ahead 0 0", "sum 0", "sum 0 0 0", "told", "told 1 1", "Ahead 0", "row 1", "ahead 00", "ahead -0",
                     "column 0/1", "ahead  0", "told 1 ", "", "plus 0 0"):
            self.wrong(3, read_program, f"program 1\ncolumn 0\n{step}")

    def test_runs(self):
        self.assertEqual(read_runs(f"runs 2\n{10 ** 30} times 1 2\n0 times 1/2 0").lots(),
                         [([Ratio(1), Ratio(2)], 10 ** 30), ([Ratio(1, 2), Ratio(0)], 0)])
        for line in ("1 times 1", "1 times 1 2 3", "times 1 2", "1 time 1 2", "1 Times 1 2", "1 2 times", "1", "1 1 2",
                     "1 times", "1 times  1 2"):
            self.wrong(2, read_runs, f"runs 2\n{line}")

    def test_bent_texts(self):
        chance = random.Random(155)
        read = refused = 0
        for turn in range(4000):
            sort = list(READ)[turn % 5]
            text = bent(chance, plain_text(sort, some_thing(chance, sort, chance.randrange(4))))
            if chance.randrange(2):
                text = bent(chance, text)
            line = wrong_line(sort, text)
            if line is None:
                self.assertEqual(READ[sort](text), told_by(sort, text))
                read += 1
            else:
                self.wrong(line, READ[sort], text)
                refused += 1
        self.assertGreater(read, 300)
        self.assertGreater(refused, 1500)

    def test_bent_words(self):
        chance = random.Random(156)
        for turn in range(1500):
            columns = turn % 4
            text = bent(chance, plain_word(some_word(chance, columns, chance.randrange(9), 8)))
            first, *more = text.split("\n")
            if not re.fullmatch(word_pattern(columns), first):
                self.wrong(1, read_word, columns, text)
            elif more:
                self.wrong(2, read_word, columns, text)
            else:
                self.same(read_word(columns, text), letters_in(text))

    def test_no_strings(self):
        values = [value for value in odd_values() if not isinstance(value, str)] + [0, 1, Ratio(1), [], ["table 1"], ()]
        for value in values:
            for read in READ.values():
                self.wrong(None, read, value)
                self.wrong(None, read, text=value)
            self.wrong(None, read_word, 1, value)
            self.refuses(InvalidColumns, 4, read_word, 4, value)
        for columns in no_columns():
            self.refuses(InvalidColumns, columns, read_word, columns, "-")

    def test_what_is_told_is_new(self):
        table = read_table("table 1\nrow 1")
        table.rows()[0][0] = 5
        self.assertEqual(read_table("table 1\nrow 1"), table)


if __name__ == "__main__":
    unittest.main()
