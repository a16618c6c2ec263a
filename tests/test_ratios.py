"""Ratios: points 2 and 11 of the document."""

import unittest
from fractions import Fraction

from aheadsums.errors import DividedByZero, InvalidNumber
from aheadsums.ratios import Ratio
from tests.helping import Case, LikeAll, fraction, no_integers, no_numbers, odd_values

LONG = 10 ** 1900 + 7
SOME = [0, 1, -1, 2, 3, 7, -12, 10 ** 30, LONG,
        Ratio(0), Ratio(1), Ratio(-1), Ratio(1, 2), Ratio(-3, 2), Ratio(5, 6), Ratio(22, 7), Ratio(10 ** 6 - 1, 10 ** 6),
        Ratio(LONG, 3), Ratio(-3, LONG)]


class MadeTest(Case):
    def test_lowest_terms(self):
        for top, bottom, told in [(6, 4, (3, 2)), (4, -6, (-2, 3)), (-4, -6, (2, 3)), (-4, 6, (-2, 3)), (0, 5, (0, 1)),
                                  (0, -5, (0, 1)), (7, 1, (7, 1)), (7, -1, (-7, 1)), (12, 4, (3, 1)), (5, 7, (5, 7)),
                                  (17 * LONG, 34 * LONG, (1, 2)), (LONG, -1, (-LONG, 1)), (1, -LONG, (-1, LONG))]:
            made = Ratio(top, bottom)
            self.same((made.top, made.bottom), told)

    def test_all_small_ones(self):
        for top in range(-12, 13):
            for bottom in list(range(-12, 0)) + list(range(1, 13)):
                wanted = Fraction(top, bottom)
                made = Ratio(top, bottom)
                self.same((made.top, made.bottom), (wanted.numerator, wanted.denominator))
                self.same(made.sign, (wanted > 0) - (wanted < 0))
                self.assertIs(made.is_whole, wanted.denominator == 1)

    def test_the_bottom_is_1_when_it_is_not_told(self):
        self.same((Ratio(5).top, Ratio(5).bottom), (5, 1))
        self.assertEqual(Ratio(top=-5), Ratio(-5, 1))
        self.assertEqual(Ratio(top=5, bottom=10), Ratio(1, 2))
        self.assertEqual(Ratio(bottom=10, top=5), Ratio(1, 2))

    def test_signs(self):
        self.same([Ratio(-1, 2).sign, Ratio(0).sign, Ratio(LONG, 3).sign, Ratio(1, -2).sign], [-1, 0, 1, -1])

    def test_wholes(self):
        self.same([Ratio(4, 2).is_whole, Ratio(0, 7).is_whole, Ratio(-1, 2).is_whole, Ratio(LONG, 3).is_whole],
                  [True, True, False, LONG % 3 == 0])

    def test_what_is_no_integer(self):
        self.refuses_each(Ratio, {"top": 1, "bottom": 2},
                          {"top": (InvalidNumber, no_integers()), "bottom": (InvalidNumber, no_integers() + [0])})
        self.refuses(InvalidNumber, True, Ratio, True)
        self.refuses(InvalidNumber, "1", Ratio, top="1")

    def test_the_first_wrong_one_comes_first(self):
        self.refuses(InvalidNumber, "a", Ratio, "a", 0)
        self.refuses(InvalidNumber, True, Ratio, True, False)
        self.refuses(InvalidNumber, Ratio(1), Ratio, Ratio(1), Ratio(1))
        self.refuses(InvalidNumber, None, Ratio, bottom=0, top=None)
        self.refuses(InvalidNumber, 0, Ratio, 0, 0)

    def test_it_never_changes(self):
        made = Ratio(3, 2)
        for name in ("top", "bottom", "sign", "is_whole"):
            with self.assertRaises(AttributeError):
                setattr(made, name, 1)
        for use in (lambda: made + 1, lambda: made - made, lambda: made * 3, lambda: -made, lambda: made.over(2),
                    lambda: made.size(), lambda: made.is_below(7), lambda: Ratio.total([made, made])):
            use()
            self.same((made.top, made.bottom), (3, 2))


class WorkTest(Case):
    def test_sums_differences_products(self):
        for one in SOME:
            for other in SOME:
                if isinstance(one, int) and isinstance(other, int):
                    continue
                self.worth(one + other, fraction(one) + fraction(other))
                self.worth(one - other, fraction(one) - fraction(other))
                self.worth(one * other, fraction(one) * fraction(other))

    def test_what_comes_out_is_in_lowest_terms(self):
        for made, told in [(Ratio(1, 2) + Ratio(1, 2), (1, 1)), (Ratio(1, 6) + Ratio(1, 3), (1, 2)),
                           (Ratio(1, 2) - Ratio(1, 2), (0, 1)), (Ratio(2, 3) * Ratio(3, 2), (1, 1)),
                           (3 * Ratio(1, 3), (1, 1)), (1 - Ratio(1, 3), (2, 3)), (Ratio(1, 3) - 1, (-2, 3)),
                           (2 + Ratio(1, 3), (7, 3)), (Ratio(1, 3) + 2, (7, 3)), (0 * Ratio(5, 7), (0, 1)),
                           (Ratio(2, 3).over(Ratio(-4, 3)), (-1, 2)), (-Ratio(-1, 2), (1, 2)), (-Ratio(0), (0, 1))]:
            self.same((made.top, made.bottom), told)

    def test_minus_in_front(self):
        for one in SOME:
            if isinstance(one, Ratio):
                self.worth(-one, -fraction(one))

    def test_over_and_size(self):
        for one in SOME:
            if isinstance(one, int):
                continue
            self.worth(one.size(), abs(fraction(one)))
            for other in SOME:
                if fraction(other) == 0:
                    self.raised(DividedByZero, one.over, other)
                else:
                    self.worth(one.over(other), fraction(one) / fraction(other))
                    self.worth(one.over(other=other), fraction(one) / fraction(other))

    def test_order(self):
        for one in SOME:
            if isinstance(one, int):
                continue
            for other in SOME:
                self.assertIs(one.is_below(other), fraction(one) < fraction(other))
                self.assertIs(one.is_at_most(other), fraction(one) <= fraction(other))
                self.assertIs(one.is_below(other=other), fraction(one) < fraction(other))
                self.assertIs(one.is_at_most(other=other), fraction(one) <= fraction(other))

    def test_what_is_no_number_on_the_right(self):
        one = Ratio(3, 2)
        for value in no_numbers():
            for use in (lambda: one + value, lambda: one - value, lambda: one * value, lambda: one.over(value),
                        lambda: one.is_below(value), lambda: one.is_at_most(value), lambda: one.over(other=value),
                        lambda: one.is_below(other=value), lambda: one.is_at_most(other=value),
                        lambda: Ratio(0) + value, lambda: Ratio(0) * value):
                self.refuses(InvalidNumber, value, use)

    def test_divided_by_0(self):
        for zero in (0, Ratio(0), Ratio(0, -3)):
            self.raised(DividedByZero, Ratio(1, 2).over, zero)
            self.raised(DividedByZero, Ratio(0).over, zero)
        self.refuses(InvalidNumber, False, Ratio(1).over, False)


class TotalTest(Case):
    def test_totals(self):
        self.worth(Ratio.total([]), 0)
        self.worth(Ratio.total(()), 0)
        self.worth(Ratio.total([5]), 5)
        self.worth(Ratio.total((1, Ratio(1, 2), -3)), Fraction(-3, 2))
        self.worth(Ratio.total(numbers=[Ratio(1, 3)] * 3), 1)
        self.worth(Ratio.total([Ratio(1, n) for n in range(1, 60)]), sum([Fraction(1, n) for n in range(1, 60)]))
        self.worth(Ratio.total(SOME), sum([fraction(one) for one in SOME]))
        self.worth(Ratio(7).total([1, 2]), 3)
        self.worth(Ratio.total([1] * 200), 200)

    def test_what_is_no_list(self):
        for value in odd_values() + [0, 3, Ratio(1)]:
            self.refuses(InvalidNumber, value, Ratio.total, value)
            self.refuses(InvalidNumber, value, Ratio.total, numbers=value)

    def test_the_first_element_that_is_no_number(self):
        for value in no_numbers():
            self.refuses(InvalidNumber, value, Ratio.total, [1, Ratio(2), value, 3])
            self.refuses(InvalidNumber, value, Ratio.total, (value, "behind it", None))
            self.refuses(InvalidNumber, value, Ratio.total, numbers=[value])
        self.refuses(InvalidNumber, True, Ratio.total, [1, True, "a"])

    def test_what_is_passed_stays(self):
        self.leaves(Ratio.total, [1, Ratio(1, 2), 3])


class EqualTest(Case):
    def test_ratios_of_one_worth(self):
        for one in SOME:
            for other in SOME:
                if isinstance(one, Ratio) and isinstance(other, Ratio):
                    like = fraction(one) == fraction(other)
                    self.assertIs(one == other, like)
                    self.assertIs(one != other, not like)
        self.assertIs(Ratio(6, 4) == Ratio(-3, -2), True)
        self.assertIs(Ratio(1, 2) == Ratio(1, 3), False)
        self.assertIs(Ratio(1, 2) == Ratio(3, 2), False)

    def test_nothing_else_is_equal(self):
        for one in (Ratio(0), Ratio(1), Ratio(2), Ratio(1, 2)):
            for value in no_numbers() + [0, 1, 2, -1]:
                self.assertIs(one == value, False)
                self.assertIs(one != value, True)
                if not isinstance(value, LikeAll) and type(value).__name__ != "Unlikeable":
                    self.assertIs(value == one, False)
                    self.assertIs(value != one, True)
        self.assertNotIn(1, [Ratio(1)])
        self.assertNotIn(Ratio(1), [1, True, "1"])


class TextTest(Case):
    def test_str(self):
        self.same([str(Ratio(3, 2)), str(Ratio(-3, 2)), str(Ratio(4, 2)), str(Ratio(0, 9)), str(Ratio(5, -1))],
                  ["3/2", "-3/2", "2", "0", "-5"])
        self.same(str(Ratio(LONG, 2)), f"{LONG}/2")
        self.same(str(Ratio(LONG)), f"{LONG}")

    def test_repr(self):
        self.same([repr(Ratio(3, 2)), repr(Ratio(3)), repr(Ratio(-6, 4)), repr(Ratio(0, 7)), repr([Ratio(1)])],
                  ["Ratio(3, 2)", "Ratio(3, 1)", "Ratio(-3, 2)", "Ratio(0, 1)", "[Ratio(1, 1)]"])


if __name__ == "__main__":
    unittest.main()
