"""Texts that never get narrower along an axis: the points [10], [12], [16] and the rising module."""

from betweenfaces.axes import Axis
from betweenfaces.designs import Design
from betweenfaces.errors import UnknownAxis, UnknownLetter
from betweenfaces.letters import Letter
from betweenfaces.quantities import Quantity
from betweenfaces.ratios import Ratio
from betweenfaces.rising import check_fall, rises
from betweenfaces.settings import Setting
from betweenfaces.tents import Reach, Tent
from tests.drawn import told
from tests.examples import HALF, UP, axis_w
from tests.makers import Maker
from tests.oracle import fraction
from tests.sampling import sampled, settings_of, width_by_hand
from tests.values import Case, kind_of, odd_values

QUARTER = Ratio(1, 4)


def design_with(swaps=(), axes=None, pairs=None, **widths):
    return Design([axis_w()] if axes is None else axes, {name: Letter(width) for name, width in widths.items()}, pairs=pairs, swaps=swaps)


def two_axes():
    return [Axis("v", least=0, home=0, most=1), axis_w()]


def document_design():
    """The design of the example of the last three modules."""
    wide = Letter(Quantity(100, (Reach(weight=Tent(0, 1, 1)), 20)), [(10, 0), (90, 0)])
    slim = Letter(Quantity(90), [(0, 0), (80, 0)])
    axis = Axis("weight", least=0, home=0, most=1)
    return Design([axis], {"a": wide, "b": slim}, swaps=[({"weight": (HALF, Ratio(3, 4))}, {"a": "b"})])


class Rises(Case):
    def falls(self, design, text, axis="w"):
        """The two places of a fall that is found, as it must be."""
        ahead = kind_of(design)
        found = rises(design, text, axis)
        self.assertIsInstance(found, tuple)
        first, second = found
        self.assertEqual(first.without(axis), second.without(axis))
        self.assertTrue(first[axis].under(second[axis]))
        self.assertTrue(width_by_hand(design, told(first), text) > width_by_hand(design, told(second), text))
        self.assertIs(check_fall(design, text, axis, found), True)
        self.same(rises(design=design, text=text, axis=axis), found)
        self.assertEqual(kind_of(design), ahead)
        return found

    def never(self, design, text, axis="w"):
        self.assertIs(rises(design, text, axis), None)

    def test_texts_that_never_fall(self):
        design = design_with(a=Quantity(5), b=Quantity(5, (UP, 4)), c=Quantity(5, (UP, -4)), pairs={"cb": Quantity(0, (UP, NEARLY))})
        for text in ("", "a", "b", "bb", "bc", "cb", "aabab"):
            self.never(design, text)
        for text in ("c", "cc", "ccb", "aacbc"):
            self.falls(design, text)

    def test_a_fall_within_a_cell(self):
        hill = Quantity(5, (Reach(w=Tent(0, HALF, 1)), 4))
        first, second = self.falls(design_with(a=hill), "a")
        self.assertTrue(not first["w"].under(QUARTER))
        valley = Quantity(5, (Reach(w=Tent(0, HALF, 1)), -4))
        self.falls(design_with(a=valley), "a")

    def test_a_fall_only_over_the_end_of_a_cell(self):
        # b is 10 to 14; behind 1/2, or from it on, it is drawn as a, 10 to 14, too, but 1 less.
        rise = Quantity(10, (UP, 4))
        for box, place in (((HALF, 1), HALF), ((0, HALF), HALF)):
            less = Quantity(9 if box[1] == 1 else 11, (UP, 4))
            design = design_with([({"w": box}, {"b": "a"})], a=less, b=rise)
            first, second = self.falls(design, "b")
            self.assertTrue(not place.under(first["w"]) and not second["w"].under(place))
            more = Quantity(11 if box[1] == 1 else 9, (UP, 4))
            self.never(design_with([({"w": box}, {"b": "a"})], a=more, b=rise), "b")
            self.never(design_with([({"w": box}, {"b": "a"})], a=rise, b=rise), "b")

    def test_a_fall_only_at_a_box_of_one_place(self):
        rise = Quantity(10, (UP, 4))
        for place in (0, HALF, 1):
            here = Ratio(10) + Ratio(4) * Ratio.of(place)
            for step in (Ratio(0), NEARLY, -NEARLY):
                design = design_with([({"w": (place, place)}, {"b": "a"})], a=Quantity(here + step), b=rise)
                # Too wide at the end, or too narrow at the beginning, is no fall.
                falls = step != Ratio(0) and not (place == 0 and step == -NEARLY) and not (place == 1 and step == NEARLY)
                if falls:
                    first, second = self.falls(design, "b")
                    self.assertIn(Ratio.of(place), (first["w"], second["w"]))
                else:
                    self.never(design, "b")

    def test_a_fall_at_some_places_of_other_axes_only(self):
        both = Reach(v=Tent(0, 1, 1), w=Tent(0, 1, 1))
        # The slope along w is 1 - 2 v: it falls above v 1/2 alone, along v above w 0 everywhere.
        design = design_with(axes=two_axes(), a=Quantity(5, (UP, 1), (both, -2)))
        first, _ = self.falls(design, "a")
        self.assertTrue(HALF.under(first["v"]))
        first, _ = self.falls(design, "a", "v")
        self.assertTrue(Ratio(0).under(first["w"]))
        # The slope is 1 - v: it is 0 at v 1, and falls nowhere.
        self.never(design_with(axes=two_axes(), a=Quantity(5, (UP, 1), (both, -1))), "a")
        # Just at v 1 it would fall, but there another letter is drawn; a bit below it falls, too.
        slope = Quantity(5, (UP, 1), (both, Ratio(-1001, 1000)))
        design = design_with([({"v": (1, 1)}, {"a": "b"})], two_axes(), a=slope, b=Quantity(5))
        first, _ = self.falls(design, "a")
        self.assertTrue(Ratio(999, 1001).under(first["v"]) and first["v"].under(Ratio(1)))
        # A swap at one place of the other axis alone.
        design = design_with([({"v": (HALF, HALF), "w": (HALF, 1)}, {"a": "b"})], two_axes(), a=Quantity(5), b=Quantity(4))
        first, second = self.falls(design, "a")
        self.assertEqual((first["v"], second["v"]), (HALF, HALF))
        design = design_with([({"v": (HALF, 1), "w": (HALF, HALF)}, {"a": "b"})], two_axes(), a=Quantity(5), b=Quantity(4))
        first, second = self.falls(design, "a")
        self.assertEqual(second["w"], HALF)
        first, second = self.falls(design, "a", "v")
        self.assertEqual((first["w"], second["v"]), (HALF, HALF))

    def test_bends(self):
        axis = Axis("w", least=0, home=0, most=4, bend=[(0, 0), (1, 2), (3, 2), (4, 4)])
        self.never(design_with(axes=[axis], a=Quantity(1, (Reach(w=Tent(0, 4, 4)), 1))), "a")
        hill = Quantity(1, (Reach(w=Tent(0, 2, 4)), 1))
        first, _ = self.falls(design_with(axes=[axis], a=hill), "a")
        self.assertTrue(not first["w"].under(Ratio(3)))

    def test_the_other_side_of_the_home(self):
        axis = Axis("w", least=-1, home=0, most=1)
        self.never(design_with(axes=[axis], a=Quantity(9, (Reach(w=Tent(-1, -1, 0)), -3))), "a")
        self.falls(design_with(axes=[axis], a=Quantity(9, (Reach(w=Tent(-1, -1, 0)), 3))), "a")

    def test_random_designs_by_looking_close_around_all_places(self):
        words = {True: 0, False: 0}
        for seed in range(120):
            maker = Maker(seed, steps=2)
            design = maker.design(names=("w", "vw")[seed % 2], letters="abc", rows=1)
            text, axis = maker.text("abc", most=3), design.axes[-1]
            others = [places for places in settings_of(design) if places[axis.name] == fraction(axis.least)]
            along = sampled(design, axis)
            widths = [[width_by_hand(design, {**places, axis.name: place}, text) for place in along] for places in others]
            falls = any(behind < before for line in widths for before, behind in zip(line, line[1:]))
            words[falls] += 1
            if falls:
                self.falls(design, text, axis.name)
            else:
                self.never(design, text, axis.name)
        self.assertTrue(words[True] > 20 and words[False] > 20)

    def test_errors_in_their_order(self):
        design = document_design()
        for value in odd_values():
            if value != "weight":
                self.refused(UnknownAxis(value), rises, design, 7, value)
                self.refused(UnknownAxis(value), check_fall, design, "x", value, None)
            if not isinstance(value, str):
                self.refused(UnknownLetter(value), rises, design, value, "weight")
                self.refused(UnknownLetter(value), check_fall, design, value, "weight", None)
        self.refused(UnknownLetter("x"), rises, design, "abxay", "weight")
        self.refused(UnknownLetter("\n"), check_fall, design, "ab\n", "weight", None)


NEARLY = Ratio(1, 10 ** 6)


class CheckFall(Case):
    def test_the_example_of_the_document(self):
        here = Setting(weight=0)
        self.assertIs(check_fall(document_design(), "a", "weight", (here, Setting(weight=HALF))), True)
        self.assertIs(check_fall(document_design(), text="a", axis="weight", thing=(here, Setting(weight=QUARTER))), False)

    def test_any_value(self):
        design = design_with(a=Quantity(5, (UP, -4)))
        for value in odd_values():
            self.assertIs(check_fall(design, "a", "w", value), False)
            self.assertIs(check_fall(design, "a", "w", (value, Setting(w=HALF))), False)
            self.assertIs(check_fall(design, "a", "w", (Setting(w=HALF), value)), value == Setting(w=1))

    def test_right_and_wrong(self):
        both = Reach(v=Tent(0, 1, 1), w=Tent(0, 1, 1))
        design = design_with(axes=two_axes(), a=Quantity(5, (both, -4)), b=Quantity(5))
        low, high = Setting(v=1, w=0), Setting(v=1, w=1)
        self.assertIs(check_fall(design, "a", "w", (low, high)), True)
        for wrong in ((high, low), (low, low), (Setting(v=0, w=0), high), (Setting(v=0, w=0), Setting(v=0, w=1)), (low, Setting(v=HALF, w=1)),
                      [low, high], (low, high, high), (low,), (low, Setting(v=1, w=2)), (low, Setting(w=1)), (Setting(w=0), Setting(w=1)),
                      (low.moved("u", 0), high.moved("u", 0)), (low, {"v": 1, "w": 1}), ((0, 1), (1, 1))):
            self.assertIs(check_fall(design, "a", "w", wrong), False)
        self.assertIs(check_fall(design, "b", "w", (low, high)), False)
        self.assertIs(check_fall(design, "", "w", (low, high)), False)
        # A text that rises is narrower at the second one if the greater place comes first.
        rising = design_with(axes=two_axes(), a=Quantity(5, (both, 4)))
        for thing in ((low, high), (high, low)):
            self.assertIs(check_fall(rising, "a", "w", thing), False)
        # Along v they differ on another axis.
        self.assertIs(check_fall(design, "a", "v", (low, high)), False)
        self.assertIs(check_fall(design, "a", "v", (Setting(v=0, w=1), high)), True)
