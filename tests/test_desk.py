"""The desk: points 95 to 98 of the document, against a plain book of it."""

import random
import unittest

from aheadsums.claims import contrary, is_true, paper_of
from aheadsums.desk import Desk, Trial, tried
from aheadsums.errors import (CommandFailed, InvalidClaim, InvalidColumn, InvalidColumns, InvalidCommand, InvalidDeeds,
                              InvalidHigh, InvalidLow, InvalidPaper, InvalidParts, InvalidPosition, InvalidRow,
                              InvalidRows, InvalidSteps, LabelTaken, LimitError, MissingError, NameTaken, NotForward,
                              NothingToRedo, NothingToUndo, StateError, SumsError, TooMany, UnknownLabel, UnknownName,
                              UnlikeColumns)
from aheadsums.forms import Form
from aheadsums.programs import Program
from aheadsums.ratios import Ratio
from aheadsums.readers import Reader
from aheadsums.tables import Table
from aheadsums.tallies import Tally
from aheadsums.texts import form_text, program_text, table_text, tally_text
from tests.helping import Case, odd_values
from tests.plain_desk import Plain

ALL_ERRORS = (SumsError, MissingError, StateError, LimitError)
FIRST = ["table t 1 2;1/2;3", "program p 1 column,0;ahead,0;times,1,1", "make f p", "form g 1 (1)(1)<(0)>-:2",
         "tally w 1 (1)(0):1", "claim k unlike f g"]
NAMES = ["t", "p", "f", "g", "w", "a", "b", "c9", "d", "e"]
LABELS = ["k", "l", "t", "m1"]


def book_of(desk):
    """All that can be seen of a desk."""
    kept = {name: (type(desk[name]), text_of(desk[name])) for name in desk.names}
    states = desk.do("states")
    fit = {label: desk.fits(label) for label in desk.labels}
    claims = {label: (desk.do("claimed " + label), desk.claim_of(label)) for label in desk.labels}
    return desk.names, desk.labels, desk.lines(), len(desk), kept, states, fit, claims, again_of(desk)


def text_of(thing):
    for sort, text in ((Table, table_text), (Program, program_text), (Tally, tally_text), (Form, form_text)):
        if isinstance(thing, sort):
            return text(thing)
    return None


def again_of(desk):
    """The lines that can be done again, the next one first."""
    other, found = desk.copy(), []
    while True:
        try:
            found.append(other.do("redo"))
        except NothingToRedo:
            return found


def what_of(error):
    """The class of an error and its attributes."""
    return type(error), vars(error)


def outcome(do, line):
    """The answer, or the class of the error and what it tells."""
    try:
        return do(line)
    except ALL_ERRORS as error:
        return what_of(error)


def some_number(chance):
    return chance.choice(["0", "1", "-1", "2", "1/2", "-2/3", "7"])


def some_word(chance, columns, longest=2):
    letter = "(" + ",".join([chance.choice("0112") for _ in range(columns)]) + ")"
    other = letter[:-2] + chance.choice("01") + ")" if columns else letter
    return chance.choice(["-", letter, letter * longest, letter + other])


def some_rows(chance, columns, many):
    return ";".join([",".join([some_number(chance) for _ in range(columns)]) or "-" for _ in range(many)]) or "none"


def some_parts(chance, columns):
    return ";".join([some_word(chance, columns) + ":" + some_number(chance)
                     for _ in range(chance.randrange(3))]) or "none"


def some_terms(chance, columns):
    terms = []
    for _ in range(chance.randrange(3)):
        letter = "(" + ",".join([chance.choice("01") for _ in range(columns)]) + ")"
        right = chance.choice(["-", "-", some_word(chance, columns)])
        terms.append(f"{some_word(chance, columns)}<{letter}>{right}:{some_number(chance)}")
    return ";".join(terms) or "none"


LINES = """
table NEW COLUMNS ROWS|program NEW COLUMNS STEPS|tally NEW COLUMNS PARTS|form NEW COLUMNS TERMS|form NEW COLUMNS TERMS
join NEW TABLE TABLE|piece NEW TABLE 0 COUNT|piece NEW TABLE COUNT COUNT|make NEW PROGRAM|total NEW FORM
mean NEW TALLY|plus NEW FORM FORM|by NEW FORM FORM|plustal NEW TALLY TALLY|bytal NEW TALLY TALLY|put TABLE COUNT ROW
strike TABLE COUNT|swap TABLE COUNT|turn TABLE|set TABLE COUNT 0 NUMBER|set TABLE COUNT 1 NUMBER|add PROGRAM STEPS
mirror PROGRAM|ahead FORM|behind FORM|times FORM NUMBER|copy NEW NAME|drop NAME|drop NAME|claim LABEL alike FORM FORM
claim LABEL unlike FORM FORM|claim LABEL stays FORM SIDE|claim LABEL moves FORM SIDE|claim LABEL orderfree TALLY
claim LABEL ordered TALLY|claim LABEL reads FORM COUNT|claim LABEL needs FORM COUNT|claim LABEL holds TALLY COUNT
claim LABEL lacks TALLY COUNT|forget LABEL|undo|undo|redo|state LABEL|states|claimed LABEL|names|show NAME
same NAME NAME|same FORM FORM|results PROGRAM TABLE|worths FORM TABLE|kept TALLY TABLE|sum PROGRAM TABLE
worth TALLY TABLE|first PROGRAM|sides FORM|parts FORM FORM|cells FORM|free TALLY|hangs FORM own COUNT|hangs FORM SIDE 0
""".strip().replace("\n", "|").split("|")


def some_command(chance, desk):
    """A command of which most parts fit what the desk keeps."""
    columns = chance.choice([0, 1, 1, 1, 1, 2])

    def one(part):
        kinds = {"TABLE": Table, "PROGRAM": Program, "TALLY": Tally, "FORM": Form}
        if part in kinds and chance.randrange(5):
            return chance.choice([name for name in desk.names if isinstance(desk[name], kinds[part])] or NAMES)
        if part == "NEW" and chance.randrange(4):
            return chance.choice([name for name in NAMES if name not in desk] or NAMES)
        if part in kinds or part in ("NAME", "NEW"):
            return chance.choice(NAMES)
        if part == "STEPS":
            return chance.choice(["column,0", "told,1/2", "column,0;ahead,0", "told,2;behind,0;times,0,1", "ahead,0",
                                  "column,0;ahead,0;sum,0,1;less,2,1", "behind,1", "column,1;ahead,0"])
        made = {"COLUMNS": lambda: str(columns), "ROWS": lambda: some_rows(chance, columns, chance.randrange(4)),
                "PARTS": lambda: some_parts(chance, columns), "TERMS": lambda: some_terms(chance, columns),
                "COUNT": lambda: str(chance.randrange(4)), "ROW": lambda: some_rows(chance, columns, 1),
                "NUMBER": lambda: some_number(chance), "LABEL": lambda: chance.choice(LABELS),
                "SIDE": lambda: chance.choice(["ahead", "behind"])}
        return made[part]() if part in made else part

    return " ".join([one(part) for part in chance.choice(LINES).split(" ")])


def ready():
    desk = Desk()
    desk.do_all(*FIRST)
    return desk


class DeskCase(Case):
    def fails(self, error, line, desk, **told):
        """The command raises this error, with these attributes, and changes nothing."""
        ahead = book_of(desk)
        caught = self.raised(error, desk.do, line)
        for name, value in told.items():
            self.same(getattr(caught, name), value)
        self.assertEqual(book_of(desk), ahead)


class PlainBookTest(DeskCase):
    def test_drawn_rows_of_commands(self):
        chance = random.Random(181)
        done = {}
        for _ in range(60):
            desk, plain = Desk(), Plain()
            for line in FIRST if chance.randrange(3) else []:
                self.same(desk.do(line), plain.do(line))
            for _ in range(60):
                line = some_command(chance, desk)
                found, wanted = outcome(desk.do, line), outcome(plain.do, line)
                self.assertEqual(found, wanted, line)
                self.compared(desk, plain)
                done.setdefault(line.split(" ")[0], []).append(isinstance(found, str))
        for word, answered in done.items():
            self.assertTrue(any(answered), word)
        self.assertEqual(len(done), len({line.split(" ")[0] for line in LINES}))

    def compared(self, desk, plain):
        self.same(desk.names, sorted(plain.names))
        self.same(desk.labels, sorted(plain.labels))
        self.same([desk.lines(), len(desk)], [[line for line, ahead, behind in plain.past], len(plain.past)])
        for name, thing in plain.names.items():
            self.assertEqual(desk[name], thing)
            self.assertIs(name in desk, True)
        for label in plain.labels:
            claim = None if plain.state(label) == "gone" else plain.claim(plain.labels[label])
            self.assertEqual(desk.claim_of(label), claim)
            self.same(desk("state " + label), plain.state(label))
        self.same(again_of(desk), [line for line, ahead, behind in plain.undone[::-1]])

    def test_failures_change_nothing(self):
        chance = random.Random(182)
        desk = ready()
        failed = 0
        for _ in range(400):
            line = some_command(chance, desk)
            ahead = book_of(desk)
            if not isinstance(outcome(desk.do, line), str):
                self.assertEqual(book_of(desk), ahead)
                failed += 1
        self.assertGreater(failed, 100)

    def test_undo_and_redo_lead_back_and_there(self):
        chance = random.Random(183)
        for _ in range(10):
            desk, seen = Desk(), {}
            while len(desk) < 15:
                seen[tuple(desk.lines())] = book_of(desk)[:-1]
                outcome(desk.do, some_command(chance, desk))
            seen[tuple(desk.lines())] = book_of(desk)[:-1]
            lines = desk.lines()
            for at in reversed(range(15)):
                self.same(desk.do("undo"), lines[at])
                self.assertEqual(book_of(desk)[:-1], seen[tuple(lines[:at])])
            self.fails(NothingToUndo, "undo", desk)
            for at in range(15):
                self.same(desk.do("redo"), lines[at])
                self.assertEqual(book_of(desk)[:-1], seen[tuple(lines[:at + 1])])
            self.fails(NothingToRedo, "redo", desk)


class AnswersTest(DeskCase):
    def test_a_new_desk(self):
        desk = Desk()
        self.same([desk.names, desk.labels, desk.lines(), len(desk)], [[], [], [], 0])
        self.same([desk("names"), desk("states")], ["-", "-"])
        self.fails(NothingToUndo, "undo", desk)
        self.fails(NothingToRedo, "redo", desk)

    def test_what_is_kept(self):
        desk = Desk()
        self.same(desk.do_all("table t 2 1,1/2;-3,0", "table e 0 -;-", "table n 3 none",
                              "program p 1 column,0;told,-1/2;less,1,0", "tally w 1 (1)(0):1/2;-:3;(2):0",
                              "tally x 0 none", "form f 2 (1,0)<(0,1)>(2,2)(0,0):-4", "form z 0 -<()>-:1"), ["-"] * 8)
        self.assertEqual([desk["t"], desk["e"], desk["n"]],
                         [Table(2, [[1, Ratio(1, 2)], [-3, 0]]), Table(0, [[], []]), Table(3, [])])
        self.assertEqual(desk["p"], Program(1, [("column", 0), ("told", Ratio(-1, 2)), ("less", 1, 0)]))
        self.assertEqual([desk["w"], desk["x"]], [Tally(1, [(((1,), (0,)), Ratio(1, 2)), ((), 3)]), Tally(0, [])])
        self.assertEqual([desk["f"], desk["z"]], [Form(2, [((((1, 0),), (0, 1), ((2, 2), (0, 0))), -4)]),
                                                  Form(0, [(((), (), ()), 1)])])
        self.same([desk("show " + name) for name in desk.names],
                  ["0 -;-", "2 (1,0)<(0,1)>(2,2)(0,0):-4", "3 none", "1 column,0;told,-1/2;less,1,0", "2 1,1/2;-3,0",
                   "1 -:3;(1)(0):1/2", "0 none", "0 -<()>-:1"])
        self.same([desk.names, desk("names")], [["e", "f", "n", "p", "t", "w", "x", "z"], "e f n p t w x z"])

    def test_changes_of_tables_programs_and_forms(self):
        desk = ready()
        desk.do_all("put t 1 -5", "strike t 0", "swap t 0", "set t 2 0 9/2", "turn t")
        self.same(desk("show t"), "1 9/2;-5;1/2")
        desk.do_all("add p told,1/3;sum,2,3", "mirror p", "times f -1/2", "behind f", "ahead g")
        self.same(desk("show p"), "1 column,0;behind,0;times,1,1;told,1/3;sum,2,3")
        plain = Plain()
        for line in desk.lines():
            plain.do(line)
        for name in desk.names:
            self.same(desk("show " + name), plain.do("show " + name))

    def test_questions(self):
        desk = ready()
        desk.do_all("table none 1 none", "copy h f")
        lines = ("results p t", "results p none", "worths f t", "worths f none", "sum p t", "worth w t", "kept w t",
                 "first p", "sides f", "parts f g", "parts f h", "parts f f", "cells f", "free w", "hangs f ahead 0",
                 "hangs f own 0", "same f h", "same f g", "same t none")
        self.same([desk(line) for line in lines],
                  ["0,4,25/4", "-", "0,4,25/4", "-", "41/4", "9/2", "1,3,11/2,9/2", "0,1,2", "1,1", "2", "none", "none",
                   "3", "no", "yes", "no", "yes", "no", "no"])

    def test_long_numbers_in_answers(self):
        desk = Desk()
        desk.do("form f 0 -<()>-:999999/999998")
        for _ in range(5):
            desk.do("times f 999999/999998")
        self.same(desk("show f"), f"0 -<()>-:{999999 ** 6}/{999998 ** 6}")

    def test_the_desk_is_called(self):
        desk = ready()
        self.same([desk("state k"), desk(command="state k"), desk.do(command="state k")], ["true"] * 3)


class StatesTest(DeskCase):
    def test_changes_are_told(self):
        desk = ready()
        self.same(desk("state k"), "true")
        self.same(desk("claim a alike f g"), "a false")
        self.same(desk("copy h g"), "-")
        self.same(desk("drop g"), "a gone, k gone")
        self.same(desk("states"), "a gone, k gone")
        self.same([desk.claim_of("a"), desk.claim_of("k")], [None, None])
        self.same(desk("copy g f"), "a true, k false")
        self.same(desk("forget a"), "-")
        self.same(desk("state k"), "false")
        self.same(desk("undo"), "forget a")
        self.same(desk("states"), "a true, k false")

    def test_other_sorts_and_columns(self):
        desk = ready()
        self.same(desk.do_all("drop g", "tally g 1 none", "state k", "drop g", "form g 2 none", "state k", "drop g",
                              "form g 1 none"), ["k gone", "-", "gone", "-", "-", "gone", "-", "k true"])

    def test_forms_that_look_beyond(self):
        desk = Desk()
        self.same(desk.do_all("form f 1 (1)<(0)>-:1", "claim r reads f 2", "claim n needs f 1", "behind f",
                              "times f 0"),
                  ["-", "r true", "n true", "n gone, r gone", "n false, r true"])

    def test_a_claim_that_is_refused_later(self):
        desk = Desk()
        desk.do_all("tally w 3 (0,0,0):1", "claim h holds w 40", "claim o orderfree w")
        letters = [f"({i},{j},{k})" for i in range(9) for j in range(9) for k in range(9)]
        ours = [f"{letters[at]}{letters[at + 1]}{letters[at + 300]}:{at + 1}" for at in range(101)]
        theirs = [f"(8,8,8){letters[at + 100]}{letters[at]}{letters[at + 200]}:{2 * at + 1}" for at in range(150)]
        parts = ours + theirs + ["(8,8,8)" + ours[0].split(":")[0] + ":5"]
        desk.do("tally g 3 none")
        for at in range(0, len(parts), 60):
            desk.do_all("tally x 3 " + ";".join(parts[at:at + 60]), "plustal y g x", "drop g", "copy g y", "drop x",
                        "drop y")
        ahead = book_of(desk)
        caught = self.raised(TooMany, desk.do, "claim l lacks g 3")
        self.same([caught.what, caught.limit], ["terms", 400])
        self.assertEqual(book_of(desk), ahead)
        self.same(desk.do_all("drop w", "copy w g"), ["h gone, o gone", "o false"])
        self.same([desk("state h"), desk.claim_of("h"), desk.fits("h")], ["gone", None, False])

    def test_a_label_may_be_a_name(self):
        desk = ready()
        self.same(desk.do_all("claim f stays f behind", "drop f", "forget f", "names"),
                  ["f true", "f gone, k gone", "-", "g p t w"])

    def test_claims_in_their_words(self):
        desk = ready()
        for words in ("alike f g", "unlike g f", "stays f ahead", "moves f behind", "orderfree w", "ordered w",
                      "reads f 3", "needs f 12", "holds w 0", "lacks w 40"):
            self.assertIn(desk("claim l " + words), ("l true", "l false"))
            self.same(desk("claimed l"), words)
            parts = words.split(" ")
            wanted = (parts[0],) + tuple(int(one) if one.isdigit() else desk[one] if one in desk else one
                                         for one in parts[1:])
            self.assertEqual(desk.claim_of("l"), wanted)
            self.same(desk("state l"), str(is_true(desk.claim_of(label="l"))).lower())
            desk("forget l")


UNKNOWN = [
    ("join n x y", "x"), ("join n t y", "y"), ("join n f t", "f"), ("join n t f", "f"), ("make n f", "f"),
    ("total n p", "p"), ("mean n f", "f"), ("plus n f w", "w"), ("by n w f", "w"), ("plustal n w f", "f"),
    ("bytal n f w", "f"), ("put f 0 1", "f"), ("strike x 0", "x"), ("swap p 0", "p"), ("turn w", "w"),
    ("set f 0 0 1", "f"), ("add t told,1", "t"), ("mirror f", "f"), ("ahead p", "p"), ("behind t", "t"),
    ("times w 1", "w"), ("copy n x", "x"), ("drop x", "x"), ("claim l alike f t", "t"), ("claim l stays w ahead", "w"),
    ("claim l orderfree f", "f"), ("claim l reads w 1", "w"), ("claim l holds f 1", "f"), ("show x", "x"),
    ("same x f", "x"), ("same f x", "x"), ("same f w", "w"), ("same t p", "p"), ("results f t", "f"),
    ("results p f", "f"), ("worths p t", "p"), ("kept w f", "f"), ("sum t p", "t"), ("worth f t", "f"),
    ("first f", "f"), ("sides w", "w"), ("parts f x", "x"), ("cells p", "p"), ("free f", "f"), ("hangs w own 0", "w"),
    ("piece n p 5 1", "p"),
]


class RefusedTest(DeskCase):
    def test_what_is_no_command(self):
        desk = ready()
        for value in odd_values() + [0, Ratio(1), [], ["undo"], ("undo",), "", "undo ", " undo", "show", "show f g",
                                     "put t 1 2/4"]:
            ahead = book_of(desk)
            for call in (desk, desk.do):
                self.is_passed(self.raised(InvalidCommand, call, value).value, value)
            self.assertEqual(book_of(desk), ahead)

    def test_names_and_labels(self):
        desk = ready()
        self.fails(NameTaken, "table t 9 1;2", desk, name="t")
        self.fails(NameTaken, "join f t t", desk, name="f")
        self.fails(NameTaken, "copy t x", desk, name="t")
        self.fails(NameTaken, "plus f x y", desk, name="f")
        self.fails(LabelTaken, "claim k alike x y", desk, label="k")
        self.fails(LabelTaken, "claim k reads f 99", desk, label="k")
        for line, name in UNKNOWN:
            self.fails(UnknownName, line, desk, value=name)
        for line in ("forget x", "state x", "claimed x", "state f"):
            self.fails(UnknownLabel, line, desk, value=line.split(" ")[1])

    def test_errors_of_what_makes_it(self):
        desk = ready()
        desk.do_all("table u 2 1,2", "form v 2 none", "tally y 2 none", "program q 2 column,1",
                    "form l 1 " + "(1)" * 7 + "<(1)>-:1", "form b 1 -<(1)>(1):1")
        half = Ratio(1, 2)
        for line, error, told in (
                ("table n 4 1,2,3,4", InvalidColumns, {"value": 4}), ("form n 99 none", InvalidColumns, {"value": 99}),
                ("table n 2 1,2;1/2", InvalidRows, {"value": [[Ratio(1), Ratio(2)], [half]]}),
                ("table n 0 " + ";".join(["-"] * 41), InvalidRows, {"value": [[]] * 41}),
                ("program n 1 told,1/2;column,1", InvalidSteps, {"value": [("told", half), ("column", 1)]}),
                ("program n 1 ahead,0", InvalidSteps, {"value": [("ahead", 0)]}),
                ("tally n 1 (1,1):1/2", InvalidParts, {"value": [(((1, 1),), half)]}),
                ("tally n 1 (9):0", InvalidParts, {"value": [(((9,),), Ratio(0))]}),
                ("form n 1 -<()>-:1", InvalidParts, {"value": [(((), (), ()), Ratio(1))]}),
                ("form n 0 ()()()()<()>()()()():1", InvalidParts, {"value": [((((),) * 4, (), ((),) * 4), Ratio(1))]}),
                ("join n t u", UnlikeColumns, {}), ("piece n t 4 9", InvalidLow, {"value": 4}),
                ("piece n t 2 1", InvalidHigh, {"value": 1}), ("plus n f v", UnlikeColumns, {}),
                ("plustal n w y", UnlikeColumns, {}), ("by n l f", TooMany, {"what": "letters", "limit": 8}),
                ("put t 4 1", InvalidPosition, {"value": 4}),
                ("put t 3 1/2,1", InvalidRow, {"value": [half, Ratio(1)]}),
                ("put t 0 -", InvalidRow, {"value": []}), ("strike t 3", InvalidPosition, {"value": 3}),
                ("swap t 2", InvalidPosition, {"value": 2}), ("set t 3 9 1", InvalidPosition, {"value": 3}),
                ("set t 2 1 1", InvalidColumn, {"value": 1}),
                ("add p column,1", InvalidSteps, {"value": desk["p"].steps() + [("column", 1)]}),
                ("ahead l", TooMany, {"what": "letters", "limit": 8}), ("results q t", UnlikeColumns, {}),
                ("sum q t", UnlikeColumns, {}), ("worths v t", UnlikeColumns, {}), ("kept y t", UnlikeColumns, {}),
                ("worth y t", UnlikeColumns, {}), ("parts f v", UnlikeColumns, {}), ("cells b", NotForward, {}),
                ("hangs f own 1", InvalidColumn, {"value": 1}),
                ("claim n alike f v", InvalidClaim, {"value": ("alike", desk["f"], desk["v"])}),
                ("claim n reads b 2", InvalidClaim, {"value": ("reads", desk["b"], 2)}),
                ("claim n needs f 13", InvalidClaim, {"value": ("needs", desk["f"], 13)}),
                ("claim n lacks w 41", InvalidClaim, {"value": ("lacks", desk["w"], 41)})):
            with self.subTest(line):
                self.fails(error, line, desk, **told)
        for line in ("same f v", "claim n reads f 12", "claim m holds w 40", "set t 2 0 1", "put t 3 1"):
            desk.do(line)

    def test_at_most_40_rows_and_200_steps(self):
        desk = Desk()
        desk.do_all("table t 1 " + ";".join(["1"] * 40), "program p 1 " + ";".join(["column,0"] * 60))
        self.fails(TooMany, "put t 0 1", desk, what="rows", limit=40)
        self.fails(InvalidPosition, "put t 41 1", desk, value=41)
        desk.do_all(*["add p " + ";".join(["column,0"] * 60)] * 2 + ["add p " + ";".join(["column,0"] * 20)])
        self.fails(InvalidSteps, "add p told,1", desk, value=[("column", 0)] * 200 + [("told", Ratio(1))])

    def test_at_most_12_names(self):
        desk = Desk()
        for at in range(12):
            desk.do(f"table t{at} 1 1")
        for line in ("table n 1 1", "copy n t0", "join n t0 t1", "piece n t0 0 1"):
            self.fails(TooMany, line, desk, what="names", limit=12)
        self.fails(InvalidColumns, "table n 4 none", desk, value=4)
        self.fails(NameTaken, "table t3 1 1", desk, name="t3")
        self.fails(UnknownName, "copy n x", desk, value="x")
        desk.do_all("turn t0", "drop t5", "copy t5 t0")

    def test_at_most_12_labels(self):
        desk = ready()
        for at in range(11):
            desk.do(f"claim l{at} stays f behind")
        self.fails(TooMany, "claim n stays f behind", desk, what="labels", limit=12)
        self.fails(InvalidClaim, "claim n reads f 13", desk, value=("reads", desk["f"], 13))
        self.fails(LabelTaken, "claim l3 stays f behind", desk, label="l3")
        desk.do_all("forget k", "claim n stays f behind")

    def test_at_most_300_deeds(self):
        desk = Desk()
        desk.do_all("form f 1 none", *["times f 2"] * 299)
        self.same(len(desk), 300)
        self.fails(TooMany, "times f 2", desk, what="deeds", limit=300)
        self.fails(TooMany, "drop f", desk, what="deeds", limit=300)
        self.fails(UnknownName, "drop g", desk, value="g")
        self.same([desk("undo"), desk("redo"), len(desk)], ["times f 2", "times f 2", 300])
        desk.do_all("undo", "drop f", "undo", "redo")
        self.same(len(desk), 300)
        self.assertEqual(Desk.again(desk.lines()).lines(), desk.lines())
        caught = self.raised(CommandFailed, Desk.again, desk.lines() + ["form g 1 none"])
        self.same([caught.position, type(caught.__cause__)], [300, TooMany])

    def test_names_come_ahead_of_labels_and_deeds(self):
        desk = Desk()
        desk.do_all("form f 1 none", *[f"claim l{at} stays f ahead" for at in range(12)], *["times f 2"] * 287)
        self.same(len(desk), 300)
        self.fails(TooMany, "claim n stays f ahead", desk, what="labels", limit=12)
        self.fails(TooMany, "copy g f", desk, what="deeds", limit=300)


class ManyTest(DeskCase):
    def test_all_or_none(self):
        desk = ready()
        desk.do("undo")
        ahead = book_of(desk)
        for commands, position, cause in (
                (("turn t", "undo", "drop x"), 2, UnknownName), (("turn t", "turn"), 1, InvalidCommand),
                ((5,), 0, InvalidCommand), (("drop t", "show t", "turn p"), 1, UnknownName),
                (("undo",) * 6, 5, NothingToUndo), (("claim l alike f g", "cells f", "put t 9 1"), 2, InvalidPosition)):
            for call in (desk.do_all, desk.attempt):
                caught = self.raised(CommandFailed, call, *commands)
                self.same(caught.position, position)
                self.assertIs(type(caught.__cause__), cause)
                self.assertEqual(book_of(desk), ahead)

    def test_answers(self):
        desk = ready()
        self.same(desk.do_all(), [])
        self.same(desk.do_all("turn t", "show t", "undo", "redo", "undo"),
                  ["-", "1 3;1/2;2", "turn t", "turn t", "turn t"])
        self.is_new(desk.do_all, "show t")

    def test_attempts_leave_no_trace(self):
        desk = ready()
        desk.do("undo")
        ahead = book_of(desk)
        self.same(desk.attempt("turn t", "drop f", "names"), ["-", "-", "g p t w"])
        self.same(desk.attempt("redo", "undo", "undo"),
                  ["claim k unlike f g", "claim k unlike f g", "tally w 1 (1)(0):1"])
        self.same(desk.attempt(), [])
        self.assertEqual(book_of(desk), ahead)


class HeldTest(DeskCase):
    def test_in_and_by_name(self):
        desk = ready()
        for value in odd_values() + [0, [], ["t"], ("t",), "x", "T", "t ", "", "k", {"t"}, Ratio(1)]:
            self.assertIs(value in desk, False)
            self.is_passed(self.raised(UnknownName, lambda: desk[value]).value, value)
        self.assertIs("t" in desk, True)
        self.assertIsInstance(desk["t"], Table)

    def test_claims_of_labels(self):
        desk = ready()
        for value in odd_values() + [0, [], ["k"], ("k",), "t", "K", "", Ratio(1)]:
            for call in (desk.claim_of, desk.fits):
                self.is_passed(self.raised(UnknownLabel, call, value).value, value)
                self.is_passed(self.raised(UnknownLabel, call, label=value).value, value)
            self.is_passed(self.raised(UnknownLabel, desk.attach, value, (Table(1, [[1], [0], [1]]), 2)).value, value)
        self.assertEqual(desk.claim_of("k"), ("unlike", desk["f"], desk["g"]))

    def test_what_is_told_is_new(self):
        desk = ready()
        for tell in (lambda: desk.names, lambda: desk.labels, desk.lines):
            self.is_new(tell)
        with self.assertRaises(AttributeError):
            desk.names = []

    def test_copies_go_on_by_themselves(self):
        desk = ready()
        desk.attach("k", paper_of(desk.claim_of("k")))
        desk.do_all("turn t", "undo")
        other = desk.copy()
        self.assertIs(type(other), Desk)
        ahead = book_of(desk)
        self.assertEqual(book_of(other), ahead)
        self.same(other.do("redo"), "turn t")
        other.do_all("drop f", "forget k")
        self.assertEqual(book_of(desk), ahead)
        self.same([other.names, other.labels], [["g", "p", "t", "w"], []])
        desk.do("drop t")
        self.assertIs("t" in other, True)

    def test_again(self):
        chance = random.Random(184)
        for _ in range(8):
            desk = Desk()
            for _ in range(60):
                outcome(desk.do, some_command(chance, desk))
            for lines in (desk.lines(), tuple(desk.lines())):
                other = self.leaves(Desk.again, lines)
                self.assertIs(type(other), Desk)
                self.assertEqual(book_of(other)[:6], book_of(desk)[:6])
                self.same(again_of(other), [])
            self.same(Desk.again(lines=[]).lines(), [])

    def test_again_refused(self):
        for value in odd_values() + [0, "turn t", Ratio(1), {"turn t": 1}]:
            self.same(self.raised(InvalidDeeds, Desk.again, value).position, None)
        for value in odd_values() + [0, "undo", "redo", "names", "show t", "state k", "turn", "", ["turn t"]]:
            self.same(self.raised(InvalidDeeds, Desk.again, ["drop x", value]).position, 1)
            self.same(self.raised(InvalidDeeds, Desk.again, lines=[value, "drop x"]).position, 0)
        caught = self.raised(CommandFailed, Desk.again, FIRST + ["turn t", "drop x", "drop y"])
        self.same([caught.position, type(caught.__cause__)], [7, UnknownName])


class PapersTest(DeskCase):
    def test_attach_and_fits(self):
        desk = ready()
        self.assertIs(desk.fits("k"), False)
        paper = paper_of(desk.claim_of("k"))
        self.assertIsNone(desk.attach("k", paper))
        self.assertIs(desk.fits("k"), True)
        self.assertIs(desk.fits(label="k"), True)
        self.same(len(desk), 6)
        # The claim is no longer true, so its paper is none.
        self.same(desk("drop g"), "k gone")
        self.assertIs(desk.fits("k"), False)
        self.raised(InvalidPaper, desk.attach, "k", paper)
        desk.do("copy g f")
        self.assertIs(desk.fits("k"), False)
        desk.do_all("undo", "undo")
        self.assertIs(desk.fits("k"), True)

    def test_papers_of_the_contrary(self):
        desk = ready()
        self.same(desk("claim n needs f 3"), "n false")
        reader = paper_of(contrary(desk.claim_of("n")))
        desk.attach(label="n", paper=reader)
        self.assertIs(desk.fits("n"), True)
        # A paper of the contrary is none of the claim, whichever of both is true.
        cells = paper_of(("needs", desk["f"], 2))
        self.is_passed(self.raised(InvalidPaper, desk.attach, "n", cells).value, cells)
        self.assertIs(desk.fits("n"), True)
        desk.do_all("forget n", "claim n reads f 3")
        self.assertIs(desk.fits("n"), False)
        desk.attach("n", reader)
        self.assertIs(desk.fits("n"), True)

    def test_while_the_claim_has_the_same_words(self):
        desk = ready()
        desk.attach("k", paper_of(desk.claim_of("k")))
        desk.do_all("forget k")
        self.raised(UnknownLabel, desk.fits, "k")
        desk.do("claim k unlike f g")
        self.assertIs(desk.fits("k"), True)
        desk.do_all("forget k", "claim k alike f g")
        self.assertIs(desk.fits("k"), False)
        desk.do_all("forget k", "claim k unlike g f")
        self.assertIs(desk.fits("k"), False)
        desk.do_all("undo", "undo", "undo", "undo")
        self.assertIs(desk.fits("k"), True)

    def test_whatever_deeds_come(self):
        desk = ready()
        desk.attach("k", paper_of(desk.claim_of("k")))
        for _ in range(6):
            desk.do("undo")
        self.same(desk.labels, [])
        for _ in range(6):
            desk.do("redo")
        self.assertIs(desk.fits("k"), True)
        desk.do_all("times g 5", "turn t")
        self.same(desk("undo"), "turn t")
        desk.attach("k", paper_of(desk.claim_of("k")))
        self.same(desk("redo"), "turn t")

    def test_another_paper_takes_its_place(self):
        desk = ready()
        one, other = (Table(1, [[0], [1], [1]]), 2), (Table(1, [[1], [0]]), 1)
        self.same(desk("worths f t"), "0,4,25/4")
        desk.attach("k", other)
        desk.do_all("form z 1 none", "drop g", "form g 1 (1)(1)<(0)>-:2;(2)<(0)>-:1;(2)(2)<(0)>-:1")
        self.assertIs(desk.fits("k"), False)
        self.raised(InvalidPaper, desk.attach, "k", one)
        desk.attach("k", (Table(1, [[1], [1], [0]]), 2))
        self.assertIs(desk.fits("k"), True)

    def test_what_is_attached_is_copied(self):
        desk = Desk()
        desk.do_all("tally w 1 (1)(1):1", "claim k lacks w 2")
        paper = paper_of(desk.claim_of("k"))
        desk.attach("k", paper)
        paper[0].clear()
        paper[1].append(5)
        self.assertIs(desk.fits("k"), True)
        self.is_passed(self.raised(InvalidPaper, desk.attach, "k", paper).value, paper)
        desk.do_all("form f 1 (1)<(0)>-:1", "claim m moves f ahead")
        row = [7]
        desk.attach("m", (Table(1, [[0]]), row, 0))
        row[0] = 0
        self.assertIs(desk.fits("m"), True)

    def test_no_papers(self):
        desk = ready()
        desk.do_all("claim a alike f g", "claim s stays f behind")
        values = odd_values() + [0, Ratio(1), [], (), (Table(1, [[1], [0]]), 0), Reader(1, [], [], []), ([], [])]
        for label in ("k", "a", "s"):
            for value in values:
                self.is_passed(self.raised(InvalidPaper, desk.attach, label, value).value, value)
            self.assertIs(desk.fits(label), False)
        # Of a claim that has no papers, those of the contrary are kept.
        desk.attach("a", (Table(1, [[1], [0]]), 1))
        self.assertIs(desk.fits("a"), True)


class TrialTest(DeskCase):
    def test_a_block_leaves_no_trace(self):
        desk = ready()
        desk.do_all("turn t", "undo")
        ahead = book_of(desk)
        with Trial(desk) as held:
            self.assertIs(held, desk)
            self.same(held.do("redo"), "turn t")
            held.do_all("drop f", "undo", "undo")
            held.attach("k", paper_of(held.claim_of("k")))
            self.assertIs(held.fits("k"), True)
        self.assertEqual(book_of(desk), ahead)
        self.assertIs(desk.fits("k"), False)

    def test_an_error_goes_on(self):
        desk = ready()
        ahead = book_of(desk)
        for error in (ValueError, KeyError, UnknownName, KeyboardInterrupt):
            with self.assertRaises(error):
                with Trial(desk=desk) as held:
                    held.do("drop t")
                    raise error("x")
            self.assertEqual(book_of(desk), ahead)

    def test_one_block_after_the_other(self):
        desk = ready()
        trial = Trial(desk)
        for name in ("t", "f"):
            with trial as held:
                held.do("drop " + name)
                self.assertNotIn(name, held)
            self.assertIn(name, desk)
            desk.do("turn t")
        self.same(len(desk), 8)

    def test_blocks_inside_blocks(self):
        desk = ready()
        with Trial(desk):
            desk.do("drop t")
            with Trial(desk):
                desk.do("drop f")
            self.same(desk.names, ["f", "g", "p", "w"])
        self.same(desk.names, ["f", "g", "p", "t", "w"])

    def test_tried(self):
        desk = ready()
        ahead = book_of(desk)
        self.same(tried(desk, lambda held: held.do_all("turn t", "show t")), ["-", "1 3;1/2;2"])
        self.assertIs(tried(action=lambda held: held, desk=desk), desk)
        self.assertIsNone(tried(desk, lambda held: None))
        self.raised(UnknownName, tried, desk, lambda held: [held.do("drop t"), held["t"]])
        self.assertEqual(book_of(desk), ahead)


if __name__ == "__main__":
    unittest.main()
