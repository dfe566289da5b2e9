"""Ratios, and what is asked of several numbers at once."""

import random
from fractions import Fraction

from betweenfaces.errors import InvalidRatio, NoQuotient
from betweenfaces.ratios import Ratio, ascending, greatest, least
from tests.values import Case, HALF, is_a_number, odd_values

HUGE = 10 ** 75 + 7


def some_fractions(many, seed):
    chance = random.Random(seed)
    small = [Fraction(chance.randint(-30, 30), chance.randint(1, 12)) for _ in range(many)]
    return small + [Fraction(chance.randint(-HUGE, HUGE), chance.randint(1, HUGE)) for _ in range(many)]


def ratio(fraction):
    return Ratio(fraction.numerator, fraction.denominator)


class Ratios(Case):
    def alike(self, got, fraction):
        self.assertIs(type(got), Ratio)
        self.assertEqual((got.top, got.bottom), (fraction.numerator, fraction.denominator))

    def test_lowest_terms_with_a_positive_bottom(self):
        for top, bottom, told in ((2, 4, (1, 2)), (-2, 4, (-1, 2)), (2, -4, (-1, 2)), (-2, -4, (1, 2)), (0, -7, (0, 1)),
                                  (6, 3, (2, 1)), (HUGE * 3, HUGE * 6, (1, 2)), (1, -HUGE, (-1, HUGE)), (5, 1, (5, 1))):
            made = Ratio(top, bottom)
            self.assertEqual((made.top, made.bottom), told)
        self.equal(Ratio(7), Ratio(top=7, bottom=1))
        self.assertEqual((Ratio(bottom=-3, top=6).top, Ratio(5).bottom), (-2, 1))

    def test_what_is_no_ratio(self):
        for value in odd_values():
            if isinstance(value, int) and not isinstance(value, bool):
                continue
            self.refused(InvalidRatio(), Ratio, value)
            self.refused(InvalidRatio(), Ratio, 1, value)
            self.refused(InvalidRatio(), Ratio, value, 0)
        self.refused(InvalidRatio(), Ratio, 1, 0)
        self.refused(InvalidRatio(), Ratio, 0, bottom=0)
        self.refused(InvalidRatio(), Ratio, True, True)

    def test_sums_differences_products_quotients(self):
        numbers = some_fractions(12, 1)
        for one in numbers:
            self.alike(-ratio(one), -one)
            self.assertIs(bool(ratio(one)), bool(one))
            for other in numbers:
                self.alike(ratio(one) + ratio(other), one + other)
                self.alike(ratio(one) - ratio(other), one - other)
                self.alike(ratio(one) * ratio(other), one * other)
                self.assertIs(ratio(one).under(ratio(other)), one < other)
                self.assertIs(ratio(one) == ratio(other), one == other)
                if other:
                    self.alike(ratio(one).over(other=ratio(other)), one / other)

    def test_zero(self):
        self.assertIs(bool(Ratio(0)), False)
        self.assertIs(bool(Ratio(0, -5)), False)
        self.assertIs(bool(Ratio(-1, 10 ** 70)), True)
        self.refused(NoQuotient(), HALF.over, Ratio(0))
        self.refused(NoQuotient(), Ratio(0).over, other=Ratio(0, 3))
        self.assertIs(HALF.under(HALF), False)
        self.assertIs(HALF.under(other=Ratio(2, 3)), True)

    def test_equal_only_to_ratios(self):
        self.equal(Ratio(2, 4), HALF)
        self.unequal(Ratio(1), 1)
        self.unequal(Ratio(0), False)
        self.unequal(HALF, -HALF)
        self.unequal(Ratio(1, 2), Ratio(1, 3))
        self.equal_to_none(Ratio(1))
        self.equal_to_none(Ratio(7))

    def test_of(self):
        self.same(Ratio.of(4), Ratio(4, 1))
        self.same(Ratio.of(number=HALF), Ratio(1, 2))
        for value in odd_values():
            if is_a_number(value):
                self.assertIs(type(Ratio.of(value)), Ratio)
            else:
                self.refused(InvalidRatio(), Ratio.of, value)


class Texts(Case):
    def test_str_and_repr(self):
        for made, text, shown in ((Ratio(-3, 4), "-3/4", "Ratio(-3, 4)"), (Ratio(5), "5", "Ratio(5, 1)"),
                                  (Ratio(0, 9), "0", "Ratio(0, 1)"), (Ratio(-8, 2), "-4", "Ratio(-4, 1)")):
            self.assertEqual((str(made), repr(made)), (text, shown))

    def test_long_numbers_are_written(self):
        top, bottom = 10 ** 3999, 10 ** 3999 - 1
        self.assertEqual(str(Ratio(top, bottom)), "1" + "0" * 3999 + "/" + "9" * 3999)

    def test_read_reads_what_str_writes(self):
        for number in some_fractions(20, 2):
            text = str(ratio(number))
            if len(text) < 60:
                self.same(Ratio.read(text), ratio(number))
        nines = "9" * 60
        self.same(Ratio.read(text=nines), Ratio(10 ** 60 - 1))
        self.same(Ratio.read(f"-{nines}/1{'0' * 59}"), Ratio(1 - 10 ** 60, 10 ** 59))

    def test_read_refuses_all_else(self):
        ones = "1" * 61
        for text in ("2/4", "+1", "1/1", "-0", "01", "", "-", "/", "1/", "/2", "--1", "-+1", "1/0", "0/1", "0/2", "1/-2",
                     "1/02", "-01", "00", "1 ", " 1", "1\n", "\n1", "1/2\n", "1 /2", "1/ 2", "1/2/3", "1//2", "1.0", "1_0",
                     "1e3", "a", "w", "0x1", "2/1", "10/5", "-2/4", "1,0", ones, "-" + ones, "1/" + ones, ones + "/2",
                     "9" * 4000, "1-", "1/2-", "- 1", "-/2", "~", "1-2"):
            self.refused(InvalidRatio(), Ratio.read, text)
        for value in odd_values():
            if not isinstance(value, str) or value not in ("1", "1/2"):
                self.refused(InvalidRatio(), Ratio.read, value)


class Several(Case):
    def test_ascending_least_greatest(self):
        chance = random.Random(3)
        for many in (1, 2, 5, 20):
            fractions = some_fractions(many, many)
            numbers = [int(one) if one.denominator == 1 and chance.random() < 0.5 else ratio(one) for one in fractions]
            numbers += chance.sample(numbers, len(numbers) // 2)
            chance.shuffle(numbers)
            kept = list(numbers)
            told = [ratio(one) for one in sorted(set(fractions))]
            self.same(ascending(numbers), told)
            self.same(least(numbers), told[0])
            self.same(greatest(numbers), told[-1])
            self.same(numbers, kept)

    def test_equal_ones_and_none(self):
        self.same(ascending([]), [])
        self.same(ascending(numbers=[2, Ratio(4, 2), HALF, 2, -3, Ratio(2, 4), 0, Ratio(0, 5)]),
                  [Ratio(-3), Ratio(0), HALF, Ratio(2)])
        self.same(least(numbers=[3]), Ratio(3))
        self.same(greatest(numbers=[Ratio(1, 3), HALF, HALF]), HALF)
        self.same(least([HUGE, HUGE + 1]), Ratio(HUGE))

    def test_the_list_is_the_callers(self):
        numbers = [2, 1]
        got = ascending(numbers)
        got.append(5)
        self.same(ascending(numbers), [Ratio(1), Ratio(2)])
