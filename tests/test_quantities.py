"""Quantities: their rows and their values."""

from betweenfaces.axes import Axis
from betweenfaces.errors import InvalidRow, UnknownAxis
from betweenfaces.quantities import Quantity
from betweenfaces.ratios import Ratio
from betweenfaces.settings import Setting
from betweenfaces.tents import Reach, Tent
from tests.values import Case, HALF, is_a_number, odd_values

UP, MID, DOWN = Reach(wt=Tent(0, 1, 1)), Reach(wt=Tent(0, HALF, 1)), Reach(wt=Tent(-1, -1, 0))
WIDE = Reach(wd=Tent(0, 1, 2))
BOTH = Reach(wd=Tent(0, 2, 2), wt=Tent(0, HALF, 1))


def is_a_row(value):
    return isinstance(value, tuple) and len(value) == 2 and isinstance(value[0], Reach) and is_a_number(value[1])


class Made(Case):
    def test_by_stars_and_by_of(self):
        rows = [(UP, 50), (WIDE, 0), (UP, HALF)]
        made = Quantity.of(100, rows)
        rows.append(7)
        for one in (made, Quantity(100, (UP, 50), (WIDE, 0), (UP, HALF)), Quantity.of(rows=tuple(rows[:3]), home=Ratio(100))):
            self.same([one.home, one.rows, one.names],
                      [Ratio(100), ((UP, Ratio(50)), (WIDE, Ratio(0)), (UP, HALF)), ("wd", "wt")])
            self.assertEqual(repr(one), "Quantity(3 rows)")
        for none in (Quantity(3), Quantity(home=3), Quantity.of(3), Quantity.of(3, ()), Quantity.of(3, [])):
            self.same([none.home, none.rows, none.names, repr(none)], [Ratio(3), (), (), "Quantity(0 rows)"])
        self.assertEqual(repr(Quantity(1, (UP, 1))), "Quantity(1 rows)")

    def test_the_home_then_the_rows(self):
        for value in odd_values():
            if not is_a_number(value):
                self.refused(InvalidRow("home"), Quantity, value)
                self.refused(InvalidRow("home"), Quantity, value, (UP, 1), None)
                self.refused(InvalidRow("home"), Quantity.of, value)
                self.refused(InvalidRow("home"), Quantity.of, value, rows=5)
            if not is_a_row(value):
                self.refused(InvalidRow("rows"), Quantity, 1, (UP, 1), value, (WIDE, 1))
                self.refused(InvalidRow("rows"), Quantity.of, 1, [(UP, 1), value])
            if not isinstance(value, (tuple, list)) or not all(is_a_row(row) for row in value):
                self.refused(InvalidRow("rows"), Quantity.of, 1, value)
        for row in ([UP, 1], (UP, 1, 1), (UP,), (1, UP), (UP, True), (UP, "1"), (Tent(0, 1, 1), 1), {UP.names: 1}):
            self.refused(InvalidRow("rows"), Quantity, 1, row)

    def test_sums(self):
        one, other = Quantity(100, (UP, 50), (WIDE, 1)), Quantity(HALF, (UP, 2))
        both = one + other
        self.equal(both, Quantity(Ratio(201, 2), (UP, 50), (WIDE, 1), (UP, 2)))
        self.same(both.names, ("wd", "wt"))
        self.unequal(both, other + one)
        self.equal(one, Quantity(100, (UP, 50), (WIDE, 1)))
        self.equal(Quantity(1) + Quantity(2), Quantity(3))

    def test_equal(self):
        one = Quantity(1, (UP, 2), (MID, 3))
        self.equal(one, Quantity.of(Ratio(1), [(Reach(wt=Tent(0, 1, 1)), Ratio(4, 2)), (MID, 3)]))
        for other in (Quantity(2, (UP, 2), (MID, 3)), Quantity(1, (MID, 3), (UP, 2)), Quantity(1, (UP, 2)),
                      Quantity(1, (UP, 3), (MID, 3)), Quantity(1, (UP, 2), (UP, 3)), Quantity(1, (UP, 2), (MID, 3), (MID, 0))):
            self.unequal(one, other)
        self.equal_to_none(Quantity(1))


class Values(Case):
    def test_the_example(self):
        y = Quantity(100, (UP, 50), (MID, -10))
        self.assertEqual([str(y.at(Setting(wt=Ratio(number, 4)))) for number in range(5)],
                         ["100", "215/2", "115", "265/2", "150"])

    def test_at_the_homes_and_elsewhere(self):
        one = Quantity(7, (UP, 4), (DOWN, 6), (WIDE, 3), (BOTH, 8), (UP, 0))
        for wd, wt, told in ((0, 0, 7), (0, 1, 11), (0, -1, 13), (0, Ratio(-1, 2), 10), (1, 0, 10), (2, 0, 7), (2, HALF, 17),
                             (1, HALF, 16), (1, 1, 14), (1, Ratio(1, 4), Ratio(13))):
            self.same(one.at(Setting(wd=wd, wt=wt)), Ratio.of(told))
            self.same(one.at(places=Setting(wd=wd, wt=wt, x=9)), Ratio.of(told))

    def test_the_least_name_that_is_lacking(self):
        one = Quantity(7, (UP, 0), (WIDE, 3))
        self.refused(UnknownAxis("wd"), one.at, Setting())
        self.refused(UnknownAxis("wd"), one.at, Setting(wt=0, x=1))
        self.refused(UnknownAxis("wt"), one.at, Setting(wd=0))
        self.same(Quantity(7).at(Setting()), Ratio(7))

    def test_straight_between_the_places_of_tents(self):
        one = Quantity(5, (UP, 4), (MID, -9), (Reach(wt=Tent(Ratio(1, 4), HALF, Ratio(3, 4))), 11), (BOTH, 7))
        marks = [Ratio(part, 4) for part in range(5)]
        for wd in (0, 1, 2):
            for low, high in zip(marks, marks[1:]):
                ends = [one.at(Setting(wd=wd, wt=place)) for place in (low, high)]
                for part in range(1, 4):
                    place = low + (high - low) * Ratio(part, 4)
                    told = ends[0] + (ends[1] - ends[0]) * Ratio(part, 4)
                    self.same(one.at(Setting(wd=wd, wt=place)), told)

    def test_the_value_of_a_sum(self):
        one, other = Quantity(5, (UP, 4), (BOTH, 7)), Quantity(HALF, (MID, -9), (WIDE, 2))
        for wd in range(3):
            for part in range(-2, 5):
                here = Setting(wd=wd, wt=Ratio(part, 4))
                self.same((one + other).at(here), one.at(here) + other.at(here))

    def test_behind_a_bend(self):
        axis = Axis("wt", least=0, home=0, most=1, bend=[(0, 0), (Ratio(1, 4), HALF), (Ratio(3, 4), HALF), (1, 1)])
        self.assertTrue(UP.fits([axis]) and MID.fits([axis]))
        y = Quantity(100, (UP, 50), (MID, -10))
        self.assertEqual([str(y.at(Setting(wt=axis.inner(Ratio(part, 8))))) for part in range(9)],
                         ["100", "215/2", "115", "115", "115", "115", "115", "265/2", "150"])
