"""The greatest and the least width of a text: the points [10], [12], [16], the widths and the boundcheck module."""

from betweenfaces.axes import Axis
from betweenfaces.boundcheck import check_narrowest, check_widest
from betweenfaces.designs import Design
from betweenfaces.errors import UnknownLetter
from betweenfaces.letters import Letter
from betweenfaces.quantities import Quantity
from betweenfaces.ratios import Ratio
from betweenfaces.rooms import Room
from betweenfaces.settings import Setting
from betweenfaces.tents import Reach, Tent
from betweenfaces.widths import narrower, narrowest, wider, widest
from tests.examples import HALF, UP, axis_w, drawn_design
from tests.makers import Maker
from tests.oracle import fraction, ratio
from tests.drawn import told
from tests.sampling import bound_by_hand, settings_of, width_by_hand
from tests.values import Case, kind_of, odd_values

NEARLY = Ratio(1, 10 ** 6)


def letters_with(**widths):
    return {name: Letter(width) for name, width in widths.items()}


def design_with(swaps, pairs=None, axes=None, **widths):
    return Design([axis_w()] if axes is None else axes, letters_with(**widths), pairs=pairs, swaps=swaps)


def two_axes():
    return [Axis("v", least=0, home=0, most=1), axis_w()]


class Bounds(Case):
    def bound(self, design, text, greatest, least):
        """The bounds of a text, each (value, whether it is met), and what the checks say of them."""
        ahead = kind_of(design)
        for asked, check, sign, (value, met) in ((widest, check_widest, 1, greatest), (narrowest, check_narrowest, -1, least)):
            found = asked(design, text)
            self.assertIsInstance(found, tuple)
            self.assertEqual((found[0], found[2]), (Ratio.of(value), met))
            self.assertIsInstance(found[1], Setting)
            self.same(asked(design=design, text=text), found)
            self.assertIs(check(design, text, found), True)
            width = width_by_hand(design, told(found[1]), text)
            self.assertEqual(width == fraction(value), met or width == fraction(value))
            # No width is beyond the bound, but any lesser limit is passed.
            self.beyond(design, text, Ratio.of(value), sign)
        self.assertEqual(kind_of(design), ahead)

    def beyond(self, design, text, value, sign):
        asked, other = (wider, narrower) if sign == 1 else (narrower, wider)
        self.assertIs(asked(design, text, value), None)
        self.assertIs(asked(design, text, value + Ratio(sign)), None)
        step = NEARLY if sign == 1 else -NEARLY
        found = asked(design, text, value - step)
        self.assertTrue((fraction(value - step) - width_by_hand(design, told(found), text)) * sign < 0)
        back = other(design, text, value)
        if back is not None:
            self.assertTrue((fraction(value) - width_by_hand(design, told(back), text)) * sign > 0)

    def test_the_example_of_the_document(self):
        swaps = [({"w": (1, 1)}, {"b": "a"})]
        design = design_with(swaps, a=Quantity(10), b=Quantity(10, (UP, 4)))
        self.same(widest(design, "b"), (Ratio(14), Setting(w=1), False))
        found = wider(design, "b", 13)
        self.assertTrue(Ratio(3, 4).under(found["w"]) and found["w"].under(Ratio(1)))
        self.assertIs(wider(design, "b", 14), None)
        self.bound(design, "b", (14, False), (10, True))
        swaps = [({"w": (0, 0)}, {"b": "a"}), ({"w": (1, 1)}, {"b": "a"})]
        design = design_with(swaps, a=Quantity(10), b=Quantity(14))
        self.bound(design, "b", (14, True), (10, True))
        self.assertTrue(widest(design, "b")[1]["w"] not in (Ratio(0), Ratio(1)))

    def test_texts_of_none_and_of_several_letters(self):
        design = design_with([], {"ab": Quantity(-1), "aa": Quantity(0, (UP, -8))}, a=Quantity(5, (UP, 1)), b=Quantity(2))
        self.bound(design, "", (0, True), (0, True))
        self.bound(design, "a", (6, True), (5, True))
        self.bound(design, "ab", (7, True), (6, True))
        self.bound(design, "ba", (8, True), (7, True))
        # Two a get 2 wider and 8 nearer.
        self.bound(design, "aa", (10, True), (4, True))
        self.bound(design, "a" * 20, (100, True), (-32, True))

    def test_boxes_of_one_place_hide_what_is_met_there_alone(self):
        hill = Quantity(10, (Reach(w=Tent(0, HALF, 1)), 4))
        flat = Quantity(11)
        design = design_with([({"w": (HALF, HALF)}, {"b": "a"})], a=flat, b=hill)
        self.bound(design, "b", (14, False), (10, True))
        design = design_with([({"w": (0, 0)}, {"b": "a"}), ({"w": (1, 1)}, {"b": "a"})], a=flat, b=hill)
        self.bound(design, "b", (14, True), (10, False))
        # One end is enough.
        design = design_with([({"w": (1, 1)}, {"b": "a"})], a=flat, b=hill)
        self.bound(design, "b", (14, True), (10, True))

    def test_boxes_of_stretches_are_closed(self):
        up, down = Quantity(10, (UP, 8)), Quantity(20, (UP, -8))
        design = design_with([({"w": (Ratio(1, 4), HALF)}, {"b": "a"})], a=up, b=down)
        # Drawn as b: 20 to above 18, below 16 to 12; as a from 12 to 14.
        self.bound(design, "b", (20, True), (12, True))
        design = design_with([({"w": (Ratio(1, 4), 1)}, {"b": "a"})], a=up, b=down)
        self.bound(design, "b", (20, True), (12, True))
        design = design_with([({"w": (0, HALF)}, {"b": "a"})], a=up, b=down)
        self.bound(design, "b", (16, False), (10, True))

    def test_a_width_that_is_met_along_an_edge_or_within(self):
        # 10 + 4 v at w 0, 14 at w 1; all swaps hide the ends of v.
        both = Reach(v=Tent(0, 1, 1))
        slope = Quantity(10, (both, 4), (Reach(w=Tent(0, 1, 1)), 4), (Reach(v=Tent(0, 1, 1), w=Tent(0, 1, 1)), -4))
        hidden = [({"v": (0, 0)}, {"b": "a"}), ({"v": (1, 1)}, {"b": "a"})]
        design = design_with(hidden, None, two_axes(), a=Quantity(12), b=slope)
        self.bound(design, "b", (14, True), (10, False))
        self.assertEqual(widest(design, "b")[1]["w"], Ratio(1))
        hidden.append(({"w": (1, 1)}, {"b": "a"}))
        design = design_with(hidden, None, two_axes(), a=Quantity(12), b=slope)
        self.bound(design, "b", (14, False), (10, False))
        # The same everywhere, but hidden at all ends: it is met within alone.
        hidden.append(({"w": (0, 0)}, {"b": "a"}))
        design = design_with(hidden, None, two_axes(), a=Quantity(12), b=Quantity(14))
        self.bound(design, "b", (14, True), (12, True))
        places = widest(design, "b")[1]
        self.assertTrue(all(Ratio(0).under(places[name]) and places[name].under(Ratio(1)) for name in "vw"))

    def test_boxes_of_several_axes(self):
        rise = Quantity(10, (Reach(v=Tent(0, 1, 1)), 2), (Reach(w=Tent(0, 1, 1)), 3))
        design = design_with([({"v": (1, 1), "w": (1, 1)}, {"b": "a"})], None, two_axes(), a=Quantity(12), b=rise)
        self.bound(design, "b", (15, False), (10, True))
        design = design_with([({"v": (1, 1), "w": (0, HALF)}, {"b": "a"})], None, two_axes(), a=Quantity(12), b=rise)
        self.bound(design, "b", (15, True), (10, True))
        design = design_with([({"v": (1, 1), "w": (0, HALF)}, {"b": "a"})], None, two_axes(), a=Quantity(17), b=rise)
        self.bound(design, "b", (17, True), (10, True))

    def test_bends_with_flat_stretches(self):
        axis = Axis("w", least=0, home=0, most=4, bend=[(0, 0), (1, 2), (3, 2), (4, 4)])
        hill = Quantity(10, (Reach(w=Tent(0, 2, 4)), 4))
        # The box holds from 1 to 3, where the inner place is 2.
        design = design_with([({"w": (2, 2)}, {"b": "a"})], None, [axis], a=Quantity(12), b=hill)
        self.bound(design, "b", (14, False), (10, True))
        design = design_with([({"w": (0, 1)}, {"b": "a"}), ({"w": (3, 4)}, {"b": "a"})], None, [axis], a=Quantity(12), b=hill)
        self.bound(design, "b", (14, True), (12, True))
        # At 1/2 the inner place is 1, and above it the box ends: b gets 12 only behind it.
        design = design_with([({"w": (0, 1)}, {"b": "a"}), ({"w": (3, 4)}, {"b": "a"})], None, [axis], a=Quantity(13), b=hill)
        self.bound(design, "b", (14, True), (12, False))

    def test_pairs_of_the_letters_that_are_drawn(self):
        design = design_with([({"w": (HALF, 1)}, {"b": "a"})], {"aa": Quantity(-3), "ab": Quantity(2, (UP, 4)), "ba": Quantity(1)},
                             a=Quantity(10), b=Quantity(10))
        # ab: 22 to below 24, then 17 as aa; bab: 20 + 10 + 1 + 2 + 4 w, then 30 - 6.
        self.bound(design, "ab", (24, False), (17, True))
        self.bound(design, "bab", (35, False), (24, True))

    def test_without_axes(self):
        design = design_with([({}, {"b": "a"})], {"aa": Quantity(1)}, [], a=Quantity(3), b=Quantity(7))
        self.same(widest(design, "ab"), (Ratio(7), Setting(), True))
        self.same(narrowest(design, "ab"), (Ratio(7), Setting(), True))
        self.same(wider(design, "ab", 6), Setting())
        self.assertIs(wider(design, "ab", 7), None)
        self.same(narrower(design=design, text="ab", limit=Ratio(15, 2)), Setting())
        self.assertIs(narrower(design, "ab", 7), None)

    def test_random_designs_by_looking_at_all_corners(self):
        for seed in range(60):
            maker = Maker(seed, steps=2)
            design = maker.design(names=("w", "w", "vw", "")[seed % 4], letters="abc", rows=1)
            text = maker.text("abc", most=3)
            bounds = [bound_by_hand(design, text, sign) for sign in (1, -1)]
            self.bound(design, text, *[(ratio(value), met) for value, met in bounds])

    def test_random_limits(self):
        for seed in range(80):
            maker = Maker(seed, steps=3)
            design = maker.design(names=("w", "vw")[seed % 2], letters="abc", rows=1)
            text, limit = maker.text("abc", most=3), Ratio.of(maker.number())
            widths = [width_by_hand(design, place, text) for place in settings_of(design)]
            for asked, sign in ((wider, 1), (narrower, -1)):
                found = asked(design=design, text=text, limit=limit)
                self.assertEqual(found is not None, any(width * sign > fraction(limit) * sign for width in widths))
                if found is not None:
                    self.assertEqual(found.names, tuple(axis.name for axis in design.axes))
                    self.assertTrue(width_by_hand(design, told(found), text) * sign > fraction(limit) * sign)

    def test_rooms_that_are_cut(self):
        for seed in range(40):
            maker = Maker(seed)
            design = maker.design(names=("w", "vw")[seed % 2], letters="abc")
            axis, text = design.axes[-1], maker.text("abc")
            meet = axis.least + (axis.most - axis.least) * HALF
            parts = [design.cut(Room.of({axis.name: ends})) for ends in ((axis.least, meet), (meet, axis.most), meet)]
            for asked, sign in ((widest, 1), (narrowest, -1)):
                values = [fraction(asked(part, text)[0]) * sign for part in parts]
                self.assertEqual(max(values), fraction(asked(design, text)[0]) * sign)

    def test_numbers_are_of_one_kind(self):
        design = design_with([], a=Quantity(3))
        self.same(wider(design, "a", 2), wider(design, "a", Ratio(2)))
        self.same(narrower(design, "a", 4), narrower(design, "a", Ratio(8, 2)))
        self.assertIs(wider(design, "a", Ratio(3)), None)

    def test_wrong_texts(self):
        design = drawn_design()
        for value in [*odd_values(), "abxay", "ba1", "aZ"]:
            if isinstance(value, str) and all(sign in "ab" for sign in value):
                continue
            sign = next((sign for sign in value if sign not in "ab"), None) if isinstance(value, str) else value
            for asked in (widest, narrowest):
                self.refused(UnknownLetter(sign), asked, design, value)
            for asked in (wider, narrower):
                self.refused(UnknownLetter(sign), asked, design, value, 3)
            for check in (check_widest, check_narrowest):
                self.refused(UnknownLetter(sign), check, design, value, None)


class Checks(Case):
    def test_any_value(self):
        design = drawn_design()
        for check in (check_widest, check_narrowest):
            for value in odd_values():
                self.assertIs(check(design, "ab", value), False)
                self.assertIs(check(design=design, text="ab", thing=(value, Setting(w=0), True)), False)
                self.assertIs(check(design, "ab", (Ratio(19), value, True)), check is check_narrowest and value == Setting(w=0))
                self.assertIs(check(design, "ab", (Ratio(19), Setting(w=0), value)), check is check_narrowest and value is True)

    def test_a_met_value(self):
        design = design_with([], a=Quantity(10, (UP, 4)), b=Quantity(3))
        right = (Ratio(14), Setting(w=1), True)
        self.assertIs(check_widest(design, "a", right), True)
        self.assertIs(check_widest(design, "a", (14, Setting(w=1), True)), True)
        for wrong in ((Ratio(15), Setting(w=1), True), (Ratio(13), Setting(w=Ratio(3, 4)), True), (Ratio(14), Setting(w=0), True),
                      (Ratio(14), Setting(w=1), False), (Ratio(14), Setting(w=1), 1), (True, Setting(w=1), True),
                      (Ratio(14), Setting(w=2), True), (Ratio(14), Setting(), True), (Ratio(14), Setting(w=1, v=0), True),
                      (Ratio(14), Setting(v=1), True), (Ratio(14), {"w": 1}, True), [Ratio(14), Setting(w=1), True],
                      (Ratio(14), Setting(w=1)), (Ratio(14), Setting(w=1), True, True), ("14", Setting(w=1), True), right[::-1]):
            self.assertIs(check_widest(design, "a", wrong), False)
        self.assertIs(check_narrowest(design, "a", right), False)
        self.assertIs(check_narrowest(design, "a", (10, Setting(w=0), True)), True)
        # Each setting will do where all are as wide.
        for place in (0, HALF, 1):
            self.assertIs(check_widest(design, "bb", (6, Setting(w=place), True)), True)
        self.assertIs(check_widest(design, "", (0, Setting(w=HALF), True)), True)
        self.assertIs(check_widest(design, "", (0, Setting(), True)), False)

    def test_a_value_that_is_not_met(self):
        hill = Quantity(10, (Reach(w=Tent(0, HALF, 1)), 4))
        design = design_with([({"w": (HALF, HALF)}, {"b": "a"})], a=Quantity(11), b=hill)
        self.assertIs(check_widest(design, "b", (14, Setting(w=HALF), False)), True)
        for wrong in ((14, Setting(w=HALF), True), (14, Setting(w=0), False), (14, Setting(w=Ratio(49, 100)), False),
                      (13, Setting(w=HALF), False), (15, Setting(w=HALF), False)):
            self.assertIs(check_widest(design, "b", wrong), False)

    def test_a_setting_that_does_not_belong_to_the_cell(self):
        # Along v 1 the width comes near to 14 on all of w, but there another letter is drawn.
        rise = Quantity(10, (Reach(v=Tent(0, 1, 1)), 4))
        design = design_with([({"v": (1, 1)}, {"b": "a"})], None, two_axes(), a=Quantity(9), b=rise)
        for place in (0, HALF, Ratio(1, 3), 1):
            self.assertIs(check_widest(design, "b", (14, Setting(v=1, w=place), False)), True)
            self.assertIs(check_widest(design, "b", (14, Setting(v=Ratio(99, 100), w=place), False)), False)
        # Near w 1/2 it is another letter on both sides alike, so that only w above it will do.
        design = design_with([({"v": (1, 1)}, {"b": "a"}), ({"w": (0, HALF)}, {"b": "a"})], None, two_axes(), a=Quantity(9), b=rise)
        self.assertIs(check_widest(design, "b", (14, Setting(v=1, w=HALF), False)), True)
        self.assertIs(check_widest(design, "b", (14, Setting(v=1, w=Ratio(1, 4)), False)), False)
        self.assertIs(check_widest(design, "b", (14, Setting(v=1, w=1), False)), True)

    def test_a_cell_of_one_place_that_is_open_along_another_axis(self):
        # At v 1/2 alone c is drawn, 10 to 14 along w, and at w 1 it is hidden, too.
        swaps = [({"w": (1, 1)}, {"b": "a"}), ({"v": (HALF, HALF)}, {"b": "c"})]
        design = design_with(swaps, None, two_axes(), a=Quantity(9), b=Quantity(8), c=Quantity(10, (UP, 4)))
        self.same(widest(design, "b"), (Ratio(14), Setting(v=HALF, w=1), False))
        self.assertIs(check_widest(design, "b", (14, Setting(v=HALF, w=1), False)), True)
        for place in (0, Ratio(1, 4), Ratio(499, 1000), Ratio(3, 4), 1):
            self.assertIs(check_widest(design, "b", (14, Setting(v=place, w=1), False)), False)
        self.assertIs(check_widest(design, "b", (14, Setting(v=HALF, w=Ratio(999, 1000)), False)), False)

    def test_the_least_width_likewise(self):
        valley = Quantity(10, (Reach(w=Tent(0, HALF, 1)), -4))
        design = design_with([({"w": (HALF, HALF)}, {"b": "a"})], a=Quantity(11), b=valley)
        self.assertIs(check_narrowest(design, "b", (6, Setting(w=HALF), False)), True)
        self.assertIs(check_narrowest(design, "b", (6, Setting(w=HALF), True)), False)
        self.assertIs(check_narrowest(design, "b", (6, Setting(w=1), False)), False)
        self.assertIs(check_widest(design, "b", (11, Setting(w=HALF), True)), True)

    def test_random_settings(self):
        for seed in range(40):
            maker = Maker(seed, steps=2)
            design = maker.design(names=("w", "vw")[seed % 2], letters="ab", rows=1)
            text = maker.text("ab", most=2)
            for check, sign in ((check_widest, 1), (check_narrowest, -1)):
                value, met = bound_by_hand(design, text, sign)
                for _ in range(6):
                    setting = maker.setting(design.axes)
                    if met:
                        want = width_by_hand(design, told(setting), text) == value
                        self.assertIs(check(design, text, (ratio(value), setting, True)), want)
                    self.assertIs(check(design, text, (ratio(value), setting, not met)), False)
