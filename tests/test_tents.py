"""Tents on one axis, and reaches."""

import itertools
from fractions import Fraction

from betweenfaces.axes import Axis
from betweenfaces.errors import InvalidTent, UnknownAxis
from betweenfaces.ratios import Ratio
from betweenfaces.settings import Setting
from betweenfaces.tents import Reach, Tent
from tests.values import Case, HALF, is_a_number, odd_values


def scalar(start, peak, end, place):
    """What a tent is at a place, by the words of the document."""
    if place == peak:
        return Fraction(1)
    if place <= start or place >= end:
        return Fraction(0)
    if place < peak:
        return Fraction(place - start, peak - start)
    return Fraction(end - place, end - peak)


def fits(start, peak, end, least, home, most):
    above = home <= start < peak <= end <= most and (peak != end or peak == most)
    below = least <= start <= peak < end <= home and (peak != start or peak == least)
    return above or below


class Tents(Case):
    def test_attributes_and_texts(self):
        made = Tent(0, HALF, 1)
        self.same([made.start, made.peak, made.end], [Ratio(0), HALF, Ratio(1)])
        self.assertEqual((str(made), repr(made)), ("0..1/2..1", "Tent(0, 1/2, 1)"))
        self.equal(Tent(end=1, start=0, peak=HALF), made)
        self.assertEqual(str(Tent(-1, -1, Ratio(-1, 3))), "-1..-1..-1/3")

    def test_wrong_numbers(self):
        for start, peak, end in itertools.product((0, 1, 2, HALF), repeat=3):
            numbers = [Ratio.of(one) for one in (start, peak, end)]
            told = [Fraction(one.top, one.bottom) for one in numbers]
            if told[0] <= told[1] <= told[2] and told[0] < told[2]:
                self.same(Tent(start, peak, end).peak, numbers[1])
            else:
                self.refused(InvalidTent(), Tent, start, peak, end)
        for value in odd_values():
            if not is_a_number(value):
                self.refused(InvalidTent(), Tent, value, 1, 2)
                self.refused(InvalidTent(), Tent, 0, value, 2)
                self.refused(InvalidTent(), Tent, 0, 1, end=value)

    def test_the_scalar_at_each_place(self):
        for start, peak, end in itertools.combinations_with_replacement(range(5), 3):
            if start < end:
                tent = Tent(start, peak, end)
                for part in range(-2, 20):
                    place = Fraction(part, 4)
                    told = scalar(start, peak, end, place)
                    self.same(tent(Ratio(place.numerator, place.denominator)), Ratio(told.numerator, told.denominator))
        self.same(Tent(0, 2, 4)(place=1), HALF)
        self.same(Tent(0, 0, 1)(0), Ratio(1))
        self.same(Tent(0, 0, 1)(-1), Ratio(0))
        self.same(Tent(0, 1, 1)(2), Ratio(0))

    def test_fits(self):
        for least, home, most in itertools.combinations_with_replacement(range(4), 3):
            if least < most:
                axis = Axis("w", least=least, home=home, most=most)
                for start, peak, end in itertools.combinations_with_replacement(range(-1, 5), 3):
                    if start < end:
                        told = fits(start, peak, end, least, home, most)
                        self.assertIs(Tent(start, peak, end).fits(axis=axis), told)

    def test_equal(self):
        self.equal(Tent(0, 1, 2), Tent(Ratio(0), Ratio(2, 2), 2))
        for other in (Tent(0, 1, 3), Tent(0, 2, 2), Tent(-1, 1, 2), Tent(0, 0, 2)):
            self.unequal(Tent(0, 1, 2), other)
        self.equal_to_none(Tent(0, 1, 1))


class Reaches(Case):
    def setUp(self):
        self.wide, self.bold = Tent(1, 2, 2), Tent(400, 900, 900)
        self.reach = Reach(wt=self.bold, wd=self.wide)

    def test_by_keyword_and_by_dict(self):
        for made in (self.reach, Reach.of({"wd": self.wide, "wt": self.bold}), Reach.of(tents={"wt": self.bold, "wd": self.wide})):
            self.same([made.names, len(made), list(made)], [("wd", "wt"), 2, ["wd", "wt"]])
            self.equal(made["wd"], self.wide)
            self.equal(made["wt"], self.bold)
            self.assertEqual((str(made), repr(made)),
                             ("wd:1..2..2*wt:400..900..900", "Reach(wd:1..2..2*wt:400..900..900)"))
        tents = {"w": self.wide}
        made = Reach.of(tents)
        tents["w"] = tents["x"] = self.bold
        self.equal(made, Reach(w=self.wide))

    def test_what_is_no_reach(self):
        self.refused(InvalidTent(), Reach)
        for value in odd_values():
            if not isinstance(value, Tent):
                self.refused(InvalidTent(), Reach, w=value)
                self.refused(InvalidTent(), Reach.of, {"a": self.wide, "b": value})
            if not isinstance(value, dict) or not value or not isinstance(list(value.values())[0], Tent):
                self.refused(InvalidTent(), Reach.of, value)
        for name in ("self", "W", "", "toolongname", 1, None, True, ("w",)):
            self.refused(InvalidTent(), Reach.of, {name: self.wide})
            self.refused(InvalidTent(), Reach.of, {"a": self.wide, name: self.wide})
        self.refused(InvalidTent(), Reach, W=self.wide)

    def test_in_and_index_for_any_value(self):
        self.asked_by_names(Reach(w=self.wide, weight=self.bold), ("w", "weight"))

    def test_the_scalar(self):
        for wd, wt, told in ((2, 900, 1), (Ratio(3, 2), 900, HALF), (Ratio(3, 2), 650, Ratio(1, 4)), (1, 900, 0), (2, 400, 0),
                             (3, 900, 0), (2, 901, 0)):
            self.same(self.reach(Setting(wd=wd, wt=wt)), Ratio.of(told))
            self.same(self.reach(places=Setting(wd=wd, wt=wt, x=5)), Ratio.of(told))
        self.refused(UnknownAxis("wd"), self.reach, Setting())
        self.refused(UnknownAxis("wd"), self.reach, Setting(wt=400))
        self.refused(UnknownAxis("wt"), self.reach, Setting(wd=1, x=3))

    def test_fits(self):
        wd, wt = Axis("wd", least=0, home=1, most=2), Axis("wt", least=100, home=400, most=900)
        for axes in ([wd, wt], (wt, wd), [Axis("a", least=0, home=0, most=1), wt, wd]):
            self.assertIs(self.reach.fits(axes=axes), True)
        for axes in ([], (), [wd], (wt,), [wd, Axis("wt", least=100, home=500, most=900)],
                     [Axis("wd", least=0, home=1, most=3), wt], [Axis("wx", least=0, home=1, most=2), wt]):
            self.assertIs(self.reach.fits(axes), False)

    def test_equal(self):
        self.equal(self.reach, Reach(wd=Tent(1, 2, 2), wt=Tent(400, 900, 900)))
        for other in (Reach(wd=self.wide), Reach(wd=self.wide, wx=self.bold), Reach(wd=self.bold, wt=self.wide),
                      Reach(wd=self.wide, wt=self.bold, x=self.wide)):
            self.unequal(self.reach, other)
        self.equal_to_none(Reach(w=Tent(0, 1, 1)))
