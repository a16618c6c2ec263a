"""Names and commands: points 95, 97 and 98 of the document."""

import random
import re
import unittest

from aheadsums.commands import is_command, is_deed, is_name
from aheadsums.ratios import Ratio
from tests.helping import Case, odd_values

NAME = "[a-z][a-z0-9]{0,7}"
COUNT = "(?:0|[1-9][0-9]?)"
INTEGER = "(?:0|-?[1-9][0-9]{0,5})"
NUMBER = f"(?:{INTEGER}|-?[1-9][0-9]{{0,5}}/(?:[2-9]|[1-9][0-9]{{1,5}}))"
LETTER = r"\((?:[0-9](?:,[0-9]){0,2})?\)"
WORD = f"(?:-|(?:{LETTER}){{1,8}})"


def listed(one, mark):
    return f"(?:{one}(?:{mark}{one}){{0,59}})"


NUMBERS = f"(?:-|{listed(NUMBER, ',')})"
STEP = (f"(?:column,{COUNT}|told,{NUMBER}|(?:ahead|behind),{COUNT}|(?:sum|less|times),{COUNT},{COUNT})")
KINDS = {
    "NEW": NAME, "TABLE": NAME, "PROGRAM": NAME, "TALLY": NAME, "FORM": NAME, "OTHER": NAME, "NAME": NAME,
    "LABEL": NAME,
    "COLUMNS": COUNT, "AT": COUNT, "LOW": COUNT, "HIGH": COUNT, "COLUMN": COUNT, "MANY": COUNT, "NUMBER": NUMBER,
    "NUMBERS": NUMBERS, "ROWS": f"(?:none|{listed(NUMBERS, ';')})", "STEPS": listed(STEP, ";"),
    "PARTS": f"(?:none|{listed(f'{WORD}:{NUMBER}', ';')})",
    "TERMS": f"(?:none|{listed(f'{WORD}<{LETTER}>{WORD}:{NUMBER}', ';')})",
    "SIDE": "(?:ahead|behind)", "WHERE": "(?:ahead|own|behind)",
}

DEEDS = """
table NEW COLUMNS ROWS
program NEW COLUMNS STEPS
tally NEW COLUMNS PARTS
form NEW COLUMNS TERMS
join NEW TABLE OTHER
piece NEW TABLE LOW HIGH
make NEW PROGRAM
total NEW FORM
mean NEW TALLY
plus NEW FORM OTHER
by NEW FORM OTHER
plustal NEW TALLY OTHER
bytal NEW TALLY OTHER
put TABLE AT NUMBERS
strike TABLE AT
swap TABLE AT
turn TABLE
set TABLE AT COLUMN NUMBER
add PROGRAM STEPS
mirror PROGRAM
ahead FORM
behind FORM
times FORM NUMBER
copy NEW NAME
drop NAME
claim LABEL alike FORM OTHER
claim LABEL unlike FORM OTHER
claim LABEL stays FORM SIDE
claim LABEL moves FORM SIDE
claim LABEL orderfree TALLY
claim LABEL ordered TALLY
claim LABEL reads FORM MANY
claim LABEL needs FORM MANY
claim LABEL holds TALLY MANY
claim LABEL lacks TALLY MANY
forget LABEL
""".strip().split("\n")

OTHERS = """
undo
redo
state LABEL
states
claimed LABEL
names
show NAME
same NAME OTHER
results PROGRAM TABLE
worths FORM TABLE
kept TALLY TABLE
sum PROGRAM TABLE
worth TALLY TABLE
first PROGRAM
sides FORM
parts FORM OTHER
cells FORM
free TALLY
hangs FORM WHERE COLUMN
""".strip().split("\n")

GOOD_NUMBERS = ["0", "1", "-1", "999999", "-999999", "1/2", "-1/2", "999999/999998", "-7/10", "2/3", "1/999999"]
BAD_NUMBERS = ["", "-", "-0", "00", "01", "-01", "1000000", "1/1", "2/4", "4/2", "0/2", "1/0", "1/1000000", "1000000/3",
               "1/02", "1/-2", "-", "+1", "1.5", "a", "1/2/3", "/2", "1/", "--1", " ", "1/01", "-0/2"]
GOOD_COUNTS = ["0", "1", "9", "10", "99"]
BAD_COUNTS = ["", "-1", "00", "01", "100", "1/2", "a", "1,2", "+1", "-0", "1.0"]
GOOD_NAMES = ["a", "z9", "abcdefgh", "a1234567", "none", "table", "own", "z"]
BAD_NAMES = ["", "A", "1a", "abcdefghi", "a-b", "a_b", "a.b", "-", "0", "aB", "(a)"]
GOOD_WORDS = ["-", "()", "(0)", "(9)", "(1,2)", "(0,1,2)", "(0)(1,2)()", "(0)" * 8, "()" * 8]
BAD_WORDS = ["", "(0)" * 9, "(10)", "(1,2,3,4)", "(-1)", "(0)-", "--", "(0", "0)", "(,)", "(1,)", "(a)", "0", "(0)(",
             "((0))"]


def many_of(one, many, mark):
    return mark.join([one] * many)


def good_and_bad(kind):
    """Texts that stand for this kind, and texts that do not."""
    if kind in ("NEW", "TABLE", "PROGRAM", "TALLY", "FORM", "OTHER", "NAME", "LABEL"):
        return GOOD_NAMES, BAD_NAMES
    if kind in ("COLUMNS", "AT", "LOW", "HIGH", "COLUMN", "MANY"):
        return GOOD_COUNTS, BAD_COUNTS
    if kind == "NUMBER":
        return GOOD_NUMBERS, BAD_NUMBERS + ["1,2", "none"]
    if kind == "NUMBERS":
        return (GOOD_NUMBERS + ["-", "1,2,3", many_of("-1/2", 60, ",")],
                [one for one in BAD_NUMBERS if one != "-"] + ["1," + one for one in BAD_NUMBERS]
                + [many_of("1", 61, ","), "1,", ",1", "1,,2", "-,1", "1;2", "none"])
    if kind == "ROWS":
        return (GOOD_NUMBERS + ["none", "-", "-;-", "1,2;3,4", "1;2,3;-", many_of("1,1/2", 60, ";"),
                                many_of("1", 60, ",") + ";-"],
                [one for one in BAD_NUMBERS if one != "-"] + ["1;", ";1", "1;;2", "none;1", "1;none", "None"]
                + [many_of("1", 61, ";"), many_of("1", 61, ","), "1;" + many_of("1", 61, ",")])
    if kind == "STEPS":
        good = ["column,0", "column,99", "told,-1/2", "ahead,99", "behind,0", "sum,0,99", "less,1,2", "times,99,99"]
        bad = ["", "none", "column", "column,", "column,100", "column,0,0", "told", "told,2/4", "told,1,2", "ahead,-1",
               "ahead,0,1", "sum,0", "sum,0,1,2", "plus,0,1", "Sum,0,1", "ahead,00", "column,1/2", "sum,0;1",
               "column 0", "column,0;", ";column,0", "column,0;;ahead,0", "row,0", "times,1,", "-"]
        return (good + [";".join(good), many_of("ahead,0", 60, ";")],
                bad + [many_of("ahead,0", 61, ";")] + ["ahead,0;" + one for one in bad]
                + ["told," + one for one in BAD_NUMBERS])
    if kind == "PARTS":
        good = [word + ":1/2" for word in GOOD_WORDS] + ["-:" + number for number in GOOD_NUMBERS]
        bad = [word + ":1" for word in BAD_WORDS] + ["(0):" + number for number in BAD_NUMBERS]
        bad += ["", "(0)", ":1", "(0):1:1", "(0):", "-", "(0)<(0)>-:1", "(0) :1"]
        return (good + ["none", ";".join(good[:9]), many_of("(1,0)(0,1):2", 60, ";")],
                bad + ["none;-:1", "-:1;", ";-:1", many_of("-:1", 61, ";")] + ["-:1;" + one for one in bad])
    if kind == "TERMS":
        good = [word + "<(0)>-:1" for word in GOOD_WORDS] + ["-<(9,9,9)>" + word + ":1" for word in GOOD_WORDS]
        good += ["-<()>-:" + number for number in GOOD_NUMBERS]
        bad = [word + "<(0)>-:1" for word in BAD_WORDS] + ["-<(0)>" + word + ":1" for word in BAD_WORDS]
        bad += ["-<" + word + ">-:1" for word in BAD_WORDS] + ["-<()>-:" + number for number in BAD_NUMBERS]
        bad += ["", "-<->-:1", "-<(0)(1)>-:1", "-<(0)-:1", "-(0)>-:1", "-<(0)>-", "-<(0)>-:1:1", "-<<(0)>-:1",
                "-<(0)>>-:1", "-<(0)>-<(0)>-:1", "(0):1", "-", "->(0)<-:1"]
        return (good + ["none", ";".join(good[:9]), many_of("(1)<(0)>(2):3", 60, ";")],
                bad + ["none;-<(0)>-:1", many_of("-<(0)>-:1", 61, ";")] + ["-<(0)>-:1;" + one for one in bad])
    if kind == "SIDE":
        return ["ahead", "behind"], ["own", "", "Ahead", "left", "a", "aheads"]
    if kind == "WHERE":
        return ["ahead", "behind", "own"], ["", "Own", "left", "a", "ahead,own"]
    raise ValueError(kind)


def pattern_of(line):
    return " ".join([KINDS.get(part, part) for part in line.split(" ")])


PATTERNS = {line: re.compile(pattern_of(line)) for line in DEEDS + OTHERS}


def reduced(text):
    """Whether all fractions of a text are in lowest terms."""
    for top, bottom in re.findall("([0-9]+)/([0-9]+)", text):
        one, other = int(top), int(bottom)
        while other:
            one, other = other, one % other
        if one != 1:
            return False
    return True


def is_line_of(lines, text):
    return reduced(text) and any(PATTERNS[line].fullmatch(text) for line in lines)


def some_line(chance, line):
    """A command of this line of the tables."""
    return " ".join([chance.choice(good_and_bad(part)[0]) if part in KINDS else part for part in line.split(" ")])


def bent(chance, text):
    way, at = chance.randrange(5), chance.randrange(len(text) + 1)
    if way == 0:
        return text[:at] + text[at + 1:]
    if way == 1:
        return text[:at] + chance.choice(" -/<>(),:;\n0123456789abz") + text[at:]
    if way == 2:
        return text[:at] + text[max(at - 1, 0):]
    if way == 3 and at + 1 < len(text):
        return text[:at] + text[at + 1] + text[at] + text[at + 2:]
    return text[:at]


class CommandsTest(Case):
    def command(self, text, deed):
        self.same([is_command(text), is_command(value=text)], [True, True])
        self.same([is_deed(text), is_deed(value=text)], [deed, deed])

    def none(self, text):
        self.same([is_command(text), is_deed(text)], [False, False])

    def test_each_command_at_its_bounds(self):
        for line in DEEDS + OTHERS:
            parts = line.split(" ")
            first = [good_and_bad(part)[0][0] if part in KINDS else part for part in parts]
            self.command(" ".join(first), line in DEEDS)
            for at, part in enumerate(parts):
                if part in KINDS:
                    for text in good_and_bad(part)[0]:
                        self.command(" ".join(first[:at] + [text] + first[at + 1:]), line in DEEDS)

    def test_each_part_wrong_missing_or_too_much(self):
        for line in DEEDS + OTHERS:
            parts = line.split(" ")
            first = [good_and_bad(part)[0][1] if part in KINDS else part for part in parts]
            for at, part in enumerate(parts):
                wrong = good_and_bad(part)[1] if part in KINDS else ["", part.upper(), part + "s", part[:-1], "x"]
                for text in wrong:
                    whole = " ".join(first[:at] + [text] + first[at + 1:])
                    # Without its last letter a word may be another one, of the same length.
                    self.same([is_command(whole), is_deed(whole)],
                              [is_line_of(DEEDS + OTHERS, whole), is_line_of(DEEDS, whole)])
                    if part in KINDS:
                        self.none(whole)
                missing = " ".join(first[:at] + first[at + 1:])
                self.same(is_command(missing), is_line_of(DEEDS + OTHERS, missing))
                self.none(" ".join(first[:at]) + "  " + " ".join(first[at:]))
            whole = " ".join(first)
            for text in (whole + " ", " " + whole, whole + " a", whole + " 1", whole + "\n", "\n" + whole,
                         whole + " " + whole, whole + "\t", "".join([part + "\t" for part in whole.split(" ")]),
                         whole.replace(" ", "", 1) + "x"):
                self.none(text)

    def test_bent_commands(self):
        chance = random.Random(171)
        let = 0
        for turn in range(6000):
            text = bent(chance, some_line(chance, chance.choice(DEEDS + OTHERS)))
            wanted = is_line_of(DEEDS + OTHERS, text)
            self.assertIs(is_command(text), wanted, text)
            self.assertIs(is_deed(text), is_line_of(DEEDS, text), text)
            let += wanted
        self.assertGreater(let, 500)

    def test_words_of_no_table(self):
        for text in ("", " ", "-", "none", "table", "claim", "claim k", "claim k x f", "claim k alike f", "move f",
                     "Undo", "undo f", "states k", "names a", "claim", "claim k stays", "claim k claim f g",
                     "alike f g", "reads f 3", "claim k total f", "results", "unlike f g", "orderfree w", "new a"):
            self.none(text)

    def test_whatever_columns_and_places(self):
        for text in ("table t 99 1", "table t 0 1,2;3", "program p 0 column,99;ahead,50",
                     "tally w 3 (1):1;():2;(1,2)(0):3", "form f 1 " + "()" * 8 + "<(9)>" + "(1,1,1)" * 8 + ":1",
                     "piece a t 9 3", "claim k reads f 99", "claim k holds w 41", "hangs f own 99", "copy a a",
                     "plus a a a", "set t 99 99 1/2"):
            self.assertIs(is_command(text), True)

    def test_undo_and_redo_are_no_deeds(self):
        for text in OTHERS[:2]:
            self.command(text, False)

    def test_names(self):
        for name in GOOD_NAMES:
            self.same([is_name(name), is_name(value=name)], [True, True])
        for name in BAD_NAMES + ["a b", "a\n", " a", "a ", "abcdefgh1", "a" * 9, "a" * 200, "a,b"]:
            self.assertIs(is_name(name), False)
        for letter in "abcdefghijklmnopqrstuvwxyz":
            self.assertIs(is_name(letter + "0123456"), True)
            self.assertIs(is_name(letter.upper()), False)

    def test_of_any_value(self):
        values = [value for value in odd_values() if not isinstance(value, str)]
        values += [0, 1, Ratio(1), [], (), ["undo"], ("undo",), [["undo"]], {"undo": 1}]
        for value in values:
            self.same([is_name(value), is_command(value), is_deed(value)], [False] * 3)


if __name__ == "__main__":
    unittest.main()
