"""Claims, their contraries and their papers: point 93 of the document."""

import random
import unittest
from itertools import permutations

from aheadsums.claims import claim_words, contrary, is_claim, is_paper_of, is_true, paper_of
from aheadsums.errors import InvalidClaim
from aheadsums.fewest import reader_of
from aheadsums.forms import Form, form_plus, form_times
from aheadsums.pieces import piece_paper
from aheadsums.programs import Program
from aheadsums.ratios import Ratio
from aheadsums.readers import Reader
from aheadsums.tables import Table, exchanged, with_row
from aheadsums.tallies import Tally
from tests.helping import (Case, determinant_of, form_at_rows, fraction, letters_of, no_counts, no_forms, no_tallies,
                           odd_values, rank_of, rows_of, some_form, some_forward_form, some_tally, some_word,
                           worth_at_rows)

BEFORE, BARE = Form(1, [((((1,),), (0,), ()), 1)]), Form(1, [(((), (0,), ()), 1)])
BEYOND = Form(1, [(((), (0,), ((1,),)), 1)])
PAIRS, RISING = Tally(1, [(((1,), (1,)), 1)]), Tally(1, [(((0,), (1,)), 1)])
WORDS = [("alike", "unlike"), ("stays", "moves"), ("orderfree", "ordered"), ("reads", "needs"), ("holds", "lacks")]


def quotient_rank(form):
    """The fewest cells of a reader of a form without right words, out of all quotients."""
    factors = {(left, own): fraction(factor) for (left, own, right), factor in form.parts()}
    words = sorted({left[:at] for left, own in factors for at in range(len(left) + 1)})
    ends = sorted({(left[at:], own) for left, own in factors for at in range(len(left) + 1)})
    return rank_of([[factors.get((word + end, own), fraction(0)) for end, own in ends] for word in words])


def kept_rank(tally):
    """The number of kept tallies, out of all middle parts."""
    factors = {word: fraction(factor) for word, factor in tally.parts()}
    sides = sorted({(word[:low], word[high:]) for word in factors for low in range(len(word) + 1)
                    for high in range(low, len(word) + 1)})
    middles = sorted({word[low:high] for word in factors for low in range(len(word) + 1)
                      for high in range(low, len(word) + 1)})
    return rank_of([[factors.get(ahead + word + behind, fraction(0)) for word in middles] for ahead, behind in sides])


def is_free(tally):
    factors = dict(tally.parts())
    return all(factors.get(other) == factor for word, factor in factors.items() for other in permutations(word))


def true_by_rule(first, parts):
    """Whether the first claim of a row is true, worked out from the terms, words and ranks."""
    if first == "alike":
        return dict(parts[0].parts()) == dict(parts[1].parts())
    if first == "stays":
        return not any(left if parts[1] == "ahead" else right for (left, own, right), factor in parts[0].parts())
    if first == "orderfree":
        return is_free(parts[0])
    if first == "reads":
        return quotient_rank(parts[0]) <= parts[1]
    return kept_rank(parts[0]) <= parts[1]


def some_claim(chance, row):
    """The parts of a claim of this row of the table."""
    columns = chance.randrange(3)
    if row == 0:
        form = some_form(chance, columns, 3)
        return [form, form_plus(form, some_form(chance, columns, 2)) if chance.randrange(2) else form]
    if row == 1:
        form = some_form(chance, columns, 3) if chance.randrange(2) else some_forward_form(chance, columns, 2)
        return [form, chance.choice(["ahead", "behind"])]
    if row == 2:
        tally = some_tally(chance, columns, 2)
        if chance.randrange(3) == 0:
            parts = [(word, factor) for one, factor in tally.parts() for word in sorted(set(permutations(one)))]
            return [Tally(columns, [part for part in parts if part[0] == parts[0][0] or len(part[0]) < 2])]
        return [tally]
    if row == 3:
        form = some_forward_form(chance, columns, 3)
        return [form, max(0, min(12, quotient_rank(form) + chance.randrange(-2, 2)))]
    tally = some_tally(chance, columns, 3)
    return [tally, max(0, kept_rank(tally) + chance.randrange(-2, 2))]


class ClaimTest(Case):
    def test_words(self):
        self.same(claim_words(), WORDS)
        self.same(claim_words(), WORDS)
        first = claim_words()
        first.pop()
        self.same(claim_words(), WORDS)

    def test_of_each_row(self):
        good = [(word, form, other) for word in WORDS[0] for form, other in ((BEFORE, BARE), (BEFORE, BEFORE))]
        good += [(word, BEYOND, side) for word in WORDS[1] for side in ("ahead", "behind")]
        good += [(word, PAIRS) for word in WORDS[2]]
        good += [(word, BEFORE, many) for word in WORDS[3] for many in range(13)]
        good += [(word, PAIRS, many) for word in WORDS[4] for many in (0, 1, 12, 13, 39, 40)]
        for claim in good:
            self.assertIs(is_claim(claim), True)
            self.assertIs(is_claim(value=claim), True)
            for other in (list(claim), claim + (1,), claim[:-1], claim[1:], (claim,), (claim[0],), ("x",) + claim[1:],
                          (claim[0].upper(),) + claim[1:], (claim[0] + " ",) + claim[1:]):
                self.assertIs(is_claim(other), False)

    def test_parts_of_other_kinds(self):
        wrong = []
        for value in no_forms() + [Form(0, []), Form(2, []), Form(3, [])]:
            wrong += [(word, BEFORE, value) for word in WORDS[0]] + [(word, value, BEFORE) for word in WORDS[0]]
        for value in no_forms():
            wrong += [(word, value, "ahead") for word in WORDS[1]] + [(word, value, 3) for word in WORDS[3]]
        for value in odd_values() + [0, "own", "left", "Ahead", "", "ahead ", ("ahead",), BEFORE]:
            if not isinstance(value, str) or value != "ahead":
                wrong += [(word, BEFORE, value) for word in WORDS[1]]
        for value in no_tallies() + [BEFORE]:
            wrong += [(word, value) for word in WORDS[2]] + [(word, value, 3) for word in WORDS[4]]
        for value in no_counts():
            wrong += [(word, BEFORE, value) for word in WORDS[3]] + [(word, PAIRS, value) for word in WORDS[4]]
        wrong += [(word, BEFORE, many) for word in WORDS[3] for many in (13, 14, 40, 10 ** 30)]
        wrong += [(word, PAIRS, many) for word in WORDS[4] for many in (41, 42, 10 ** 30)]
        wrong += [(word, BEYOND, 3) for word in WORDS[3]]
        wrong += [(word, Program(1, [("column", 0)]), Program(1, [("column", 0)])) for word in WORDS[0]]
        for claim in wrong:
            self.assertIs(is_claim(claim), False)

    def test_of_any_value(self):
        values = odd_values() + [0, Ratio(1), [], (), BEFORE, "alike", ("alike",), ("claim", "alike", BEFORE, BEFORE),
                                 ("orderfree",), (("alike", "unlike"), BEFORE, BARE)]
        values += [(value, BEFORE, BARE) for value in odd_values() if not isinstance(value, str)]
        values += [(value,) * 3 for value in odd_values()]
        for value in values:
            self.assertIs(is_claim(value), False)
            for function in (is_true, contrary, paper_of):
                self.refuses(InvalidClaim, value, function, value)
                self.refuses(InvalidClaim, value, function, claim=value)
            self.refuses(InvalidClaim, value, is_paper_of, value, None)
            self.refuses(InvalidClaim, value, is_paper_of, value=None, claim=value)


class TrueTest(Case):
    def test_each_row_with_true_and_untrue_parts(self):
        chance = random.Random(161)
        for row, (first, second) in enumerate(WORDS):
            found = []
            for _ in range(100):
                parts = some_claim(chance, row)
                wanted = true_by_rule(first, parts)
                self.assertIs(is_true((first, *parts)), wanted)
                self.assertIs(is_true(claim=(second, *parts)), not wanted)
                found.append(wanted)
            self.assertGreater(found.count(True), 5)
            self.assertGreater(found.count(False), 5)

    def test_bounds(self):
        eight = Form(1, [((tuple((power,) for power in range(1, 8)), (0,), ()), 1)])
        self.same([is_true(("reads", eight, many)) for many in range(13)], [False] * 8 + [True] * 5)
        letters = letters_of(3, range(4))
        fan = Form(3, [(((letters[at],), letters[at], ()), 1) for at in range(12)])
        self.same([is_true(("reads", fan, 12)), is_true(("needs", fan, 12))], [False, True])
        long = Tally(1, [(tuple((power,) for power in range(8)), 1)])
        self.same([is_true(("holds", long, many)) for many in (36, 37, 40)], [False, True, True])
        two = Tally(1, [(tuple((power,) for power in range(8)), 1), (((8,),) * 5, 1)])
        self.same(kept_rank(two), 41)
        self.same([is_true(("holds", two, 40)), is_true(("lacks", two, 40))], [False, True])
        self.same([is_true(("holds", Tally(1, []), 0)), is_true(("reads", Form(1, []), 0))], [True, True])

    def test_too_many_letters_for_any_reader(self):
        letters = letters_of(2, range(9))[1:]
        for many in (40, 41):
            form = Form(2, [(((), letter, ()), 3) for letter in letters[:many]])
            self.same([is_true(("reads", form, 1)), is_true(("needs", form, 1)), is_true(("reads", form, 0))],
                      [many == 40, many != 40, False])

    def test_too_many_terms_of_a_kept_tally(self):
        tally = great_tally()
        for claim in (("holds", tally, 3), ("lacks", tally, 3)):
            self.too_many("terms", 400, is_true, claim)
            self.too_many("terms", 400, paper_of, claim)
            self.assertIs(is_claim(claim), True)
            self.same(contrary(contrary(claim)), claim)
        pieces, sides = piece_paper(Tally(3, [((), 1)]))
        self.assertIs(is_paper_of(("lacks", tally, 0), (pieces, sides)), False)


def great_tally():
    """A tally of which a kept one has more than 400 parts."""
    letters = letters_of(3, range(9))
    parts = [((letters[at], letters[at + 1], letters[at + 300]), at + 1) for at in range(101)]
    parts += [(((8, 8, 8), letters[at + 100], letters[at], letters[at + 200]), 2 * at + 1) for at in range(150)]
    return Tally(3, parts + [(((8, 8, 8),) + parts[0][0], 5)])


class ContraryTest(Case):
    def test_the_other_word_of_the_row(self):
        chance = random.Random(162)
        for row, (first, second) in enumerate(WORDS):
            for _ in range(10):
                parts = some_claim(chance, row)
                self.same(contrary((first, *parts)), (second, *parts))
                self.same(contrary(claim=(second, *parts)), (first, *parts))


class PaperTest(Case):
    def judged(self, claim, paper):
        """Whether a paper shows what its claim says, by plain sums over rows and ranks."""
        word, thing = claim[0], claim[1]
        if word == "unlike":
            table, at = paper
            return form_at_rows(thing, rows_of(table), at) != form_at_rows(claim[2], rows_of(table), at)
        if word == "moves":
            table, row, at = paper
            place = 0 if claim[2] == "ahead" else table.height
            then = rows_of(with_row(table, place, row))
            return form_at_rows(thing, rows_of(table), at) != form_at_rows(thing, then, at + (place == 0))
        if word == "ordered":
            table, at = paper
            return worth_at_rows(thing, rows_of(table)) != worth_at_rows(thing, rows_of(exchanged(table, at)))
        if word == "reads":
            return isinstance(paper, Reader) and paper.cells <= claim[2]
        if word == "needs":
            rows = [[rows_of(one) + rows_of(other) for other in paper[1]] for one in paper[0]]
            square = [[form_at_rows(thing, one, len(one) - 1) for one in line] for line in rows]
            return len(paper[0]) > claim[2] and determinant_of(square) != 0
        square = [[worth_at_rows(thing, rows_of(ahead) + rows_of(one) + rows_of(behind)) for one in paper[0]]
                  for ahead, behind in paper[1]]
        return len(paper[0]) > claim[2] and determinant_of(square) != 0

    def test_for_just_the_one_that_is_true(self):
        chance = random.Random(163)
        with_papers = ("unlike", "moves", "ordered", "reads", "needs", "lacks")
        many = {word: 0 for word in with_papers}
        for row, words in enumerate(WORDS):
            for _ in range(50):
                parts = some_claim(chance, row)
                for word in words:
                    claim = (word, *parts)
                    paper = paper_of(claim)
                    wanted = word in with_papers and true_by_rule(words[0], parts) == (word == words[0])
                    self.assertIs(paper is not None, wanted)
                    self.assertEqual(paper_of(claim=claim), paper)
                    if wanted:
                        many[word] += 1
                        self.assertIs(is_paper_of(claim, paper), True)
                        self.assertIs(is_paper_of(value=paper, claim=claim), True)
                        self.assertIs(self.judged(claim, paper), True)
                        self.assertIs(is_paper_of(contrary(claim), paper), False)
        self.assertTrue(all(count > 5 for count in many.values()), many)

    def test_kinds_without_papers(self):
        papers = [(Table(1, [[5]]), 0), (Table(1, [[5]]), [1], 0), ([], []), Reader(1, [], [], []), None, True]
        for claim in (("alike", BEFORE, BEFORE), ("stays", BEFORE, "behind"), ("orderfree", PAIRS),
                      ("holds", PAIRS, 40)):
            self.assertIs(is_true(claim), True)
            self.assertIsNone(paper_of(claim))
            for paper in papers:
                self.assertIs(is_paper_of(claim, paper), False)

    def test_papers_that_were_made_otherwise(self):
        self.assertIs(is_paper_of(("unlike", BEFORE, BARE), (Table(1, [[5]] * 40), 39)), True)
        self.assertIs(is_paper_of(("unlike", BEFORE, BARE), (Table(1, [[1], [5]]), 1)), False)
        self.assertIs(is_paper_of(("moves", BEFORE, "ahead"), (Table(1, [[0]]), (7,), 0)), True)
        self.assertIs(is_paper_of(("moves", BEFORE, "behind"), (Table(1, [[0]]), (7,), 0)), False)
        self.assertIs(is_paper_of(("ordered", RISING), (Table(1, [[1], [2], [2]]), 0)), True)
        self.assertIs(is_paper_of(("ordered", RISING), (Table(1, [[1], [2], [2]]), 1)), False)

    def test_readers(self):
        reader = reader_of(BEFORE)
        steps = [(letter, [row + [0] for row in rows] + [[0, 0, 5]]) for letter, rows in reader.steps()]
        wide = Reader(1, reader.start() + [3], steps, [(letter, row + [0]) for letter, row in reader.last()])
        for many in range(13):
            self.assertIs(is_paper_of(("reads", BEFORE, many), reader), many >= 2)
            self.assertIs(is_paper_of(("reads", BEFORE, many), wide), many >= 3)
            self.assertIs(is_paper_of(("reads", form_times(BEFORE, 2), many), reader), False)
            self.assertIs(is_paper_of(("needs", BEFORE, many), reader), False)
        for columns in (0, 2, 3):
            self.assertIs(is_paper_of(("reads", BEFORE, 12), Reader(columns, [], [], [])), False)
            self.assertIs(is_paper_of(("reads", Form(1, []), 12), Reader(columns, [], [], [])), False)

    def test_cells(self):
        paper = ([Table(1, []), Table(1, [[1]])], [Table(1, [[0]]), Table(1, [[1], [0]])])
        for many in range(13):
            self.assertIs(is_paper_of(("needs", BEFORE, many), paper), many < 2)
            self.assertIs(is_paper_of(("reads", BEFORE, many), paper), False)
        letters = letters_of(3, range(4))
        fan = Form(3, [(((letters[at],), letters[at], ()), 1) for at in range(12)])
        self.too_many("cells", 12, paper_of, ("needs", fan, 12))
        self.assertIsNone(paper_of(("reads", fan, 12)))
        self.assertIs(is_paper_of(("needs", fan, 12), ([Table(3, [])] * 13, [Table(3, [[1, 1, 1]])] * 13)), False)

    def test_too_many_letters_for_any_reader(self):
        letters = letters_of(2, range(9))[1:]
        form = Form(2, [(((), letter, ()), 3) for letter in letters[:41]])
        self.assertIsNone(paper_of(("reads", form, 1)))
        self.too_many("steps", 40, paper_of, ("needs", form, 1))
        self.assertIs(is_paper_of(("needs", form, 0), paper_of(("needs", form, 0))), True)

    def test_pieces(self):
        paper = piece_paper(PAIRS)
        for many in range(41):
            self.assertIs(is_paper_of(("lacks", PAIRS, many), paper), many < 3)
            self.assertIs(is_paper_of(("lacks", PAIRS, many), ([Table(1, [[2], [3]])], [(Table(1, []), Table(1, []))])),
                          many < 1)
            self.assertIs(is_paper_of(("holds", PAIRS, many), paper), False)
            self.assertIs(is_paper_of(("lacks", PAIRS, many), ([], [])), False)
        found = paper_of(("lacks", PAIRS, 1))
        self.assertGreater(len(found[0]), 1)

    def test_of_far_more_kept_tallies_than_the_count(self):
        chance = random.Random(164)
        tally = Tally(3, [(some_word(chance, 3, 8, 8), at + 1) for at in range(20)])
        for many in (0, 5, 40):
            paper = paper_of(("lacks", tally, many))
            self.assertGreater(len(paper[0]), many)
            self.assertLessEqual(len(paper[0]), 400)
            self.assertIs(is_paper_of(("lacks", tally, many), paper), True)

    def test_of_any_value(self):
        claims = [(word, BEFORE, BARE) for word in WORDS[0]] + [(word, BEFORE, "ahead") for word in WORDS[1]]
        claims += [(word, RISING) for word in WORDS[2]]
        claims += [(word, BEFORE, many) for word in WORDS[3] for many in (0, 12)]
        claims += [(word, PAIRS, many) for word in WORDS[4] for many in (0, 40)]
        values = odd_values() + [0, Ratio(1), [], (), BEFORE, PAIRS, (Table(1, []), 0), ([], []), (Table(1, [[1]]), 1),
                                 [Table(1, [[1]]), 0], (Table(2, [[1, 1]]), 0), ((), ()), claims[0]]
        for claim in claims:
            for value in values:
                self.assertIs(is_paper_of(claim, value), False)

    def test_what_is_passed_stays(self):
        paper = paper_of(("lacks", PAIRS, 0))
        self.leaves(is_paper_of, ("alike", BEFORE, BARE), [[1], (2, [3])])
        is_paper_of(("lacks", PAIRS, 0), paper)
        self.assertEqual(paper, paper_of(("lacks", PAIRS, 0)))
        paper[0].clear()
        self.assertIs(is_paper_of(("lacks", PAIRS, 0), paper_of(("lacks", PAIRS, 0))), True)


if __name__ == "__main__":
    unittest.main()
