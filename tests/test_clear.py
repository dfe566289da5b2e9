"""Letters that stay clear of each other: the points [10] to [12] and the clear module."""

from betweenfaces.axes import Axis
from betweenfaces.clear import check_touch, clear
from betweenfaces.designs import Design
from betweenfaces.errors import UnknownLetter
from betweenfaces.letters import Letter
from betweenfaces.quantities import Quantity
from betweenfaces.ratios import Ratio
from betweenfaces.rows import FullRow
from betweenfaces.settings import Setting
from betweenfaces.tents import Reach, Tent
from tests.drawn import told
from tests.examples import HALF, UP, axis_w
from tests.makers import Maker
from tests.oracle import fraction, ratio
from tests.sampling import gaps_by_hand, settings_of
from tests.test_rising import document_design
from tests.values import Case, kind_of, odd_values

NEARLY = Ratio(1, 10 ** 6)


def bar(width, *xs, rows=()):
    """A letter whose points have these x."""
    return Letter(width if isinstance(width, Quantity) else Quantity(width), *([[(x, 7) for x in xs]] if xs else []), rows=rows)


class Clear(Case):
    def touches(self, design, text, gap):
        ahead = kind_of(design)
        found = clear(design, text, gap)
        self.assertIsInstance(found, tuple)
        setting, index = found
        self.assertTrue(type(index) is int and 0 <= index < len(text) - 1)
        self.assertTrue(gaps_by_hand(design, told(setting), text)[index] < fraction(gap))
        self.assertIs(check_touch(design, text, gap, found), True)
        self.same(clear(design=design, text=text, gap=Ratio.of(gap)), found)
        self.assertEqual(kind_of(design), ahead)
        return found

    def just(self, design, text, gap):
        """The text is clear by just so much."""
        gap = Ratio.of(gap)
        self.assertIs(clear(design, text, gap), None)
        return self.touches(design, text, gap + NEARLY)

    def test_the_example_of_the_document(self):
        setting, index = self.just(document_design(), "ab", 10)
        self.assertEqual(index, 0)

    def test_gaps_of_0_below_0_and_just_met(self):
        letters = {"a": bar(10, 2, 8), "b": bar(5, 0, 5), "c": bar(4, -3, 9)}
        design = Design([], letters)
        for text, gap in (("aa", 4), ("ab", 2), ("ba", 2), ("bb", 0), ("ac", -1), ("ca", -3), ("cc", -8), ("abba", 0), ("acb", -5)):
            self.same(self.just(design, text, gap)[0], Setting())
        self.assertEqual(self.just(design, "aab", 2)[1], 1)
        self.assertEqual(self.just(design, "acbb", -5)[1], 1)

    def test_texts_of_one_letter_and_of_none(self):
        design = Design([axis_w()], {"a": bar(0, 0, 100)})
        for text in ("", "a"):
            self.assertIs(clear(design, text, 10 ** 6), None)
            self.assertIs(check_touch(design, text, 10 ** 6, (Setting(w=0), 0)), False)
        self.just(design, "aa", -100)

    def test_letters_without_points(self):
        design = Design([axis_w()], {"a": bar(0, 0, 100), "b": bar(-1000)})
        for text in ("ab", "ba", "bb", "aba"):
            self.assertIs(clear(design, text, 10 ** 6), None)
        self.assertIs(check_touch(design, "ab", 10 ** 6, (Setting(w=0), 0)), False)
        # A letter beyond one without points is no neighbour.
        self.assertEqual(self.touches(design, "abaa", 0)[1], 2)

    def test_points_of_parts_count(self):
        letters = {"a": bar(10, 1, 9), "b": Letter(Quantity(10), parts=[("a", 5, 0)])}
        design = Design([], letters)
        self.just(design, "ba", -3)
        self.just(design, "ab", 7)

    def test_shifts_of_pairs(self):
        design = Design([axis_w()], {"a": bar(10, 0, 10)}, pairs={"aa": Quantity(2, (UP, -5))})
        self.same(self.just(design, "aa", -3), (Setting(w=1), 0))

    def test_points_that_move(self):
        moving = bar(10, 0, 5, 10, rows=[FullRow(Reach(w=Tent(0, HALF, 1)), [(-4, 0), (9, 0), (0, 0)])])
        # At w 1/2 the middle point stands at 14, and the first one at -4.
        design = Design([axis_w()], {"a": moving})
        self.same(self.just(design, "aa", -8), (Setting(w=HALF), 0))

    def test_places_of_the_left_and_of_the_right_letter_count(self):
        hill = [FullRow(Reach(w=Tent(0, HALF, 1)), [(6, 0)])]
        valley = [FullRow(Reach(w=Tent(0, HALF, 1)), [(-6, 0)])]
        letters = {"a": bar(10, 8, rows=hill), "b": bar(10, 2, rows=valley), "c": bar(10, 5), "d": bar(Quantity(10, (Reach(w=Tent(0, HALF, 1)), -3)), 5)}
        design = Design([axis_w()], letters)
        for text, gap in (("ac", 1), ("cb", 1), ("dc", 7), ("ab", -8)):
            self.same(self.just(design, text, gap), (Setting(w=HALF), 0))

    def test_two_points_that_change_their_order(self):
        left = bar(10, 8, 0, rows=[FullRow(UP, [(-8, 0), (10, 0)])])
        design = Design([axis_w()], {"a": left, "b": bar(5, 0)})
        # 8 - 8 w and 10 w: the greatest is 10 at w 1.
        self.same(self.just(design, "ab", 0), (Setting(w=1), 0))

    def test_letters_drawn_as_others_at_boxes_of_one_place(self):
        letters = {"a": bar(10, 0, 10), "b": bar(10, 0, 20)}
        for place in (0, Ratio(1, 3), 1):
            design = Design([axis_w()], letters, swaps=[({"w": (place, place)}, {"a": "b"})])
            self.same(self.just(design, "aa", -10), (Setting(w=place), 0))
            design = Design([axis_w()], letters, swaps=[({"w": (place, place)}, {"b": "a"})])
            setting, _ = self.just(design, "bb", -10)
            self.assertTrue(setting["w"] != Ratio.of(place))
        # The pair of the letters that are drawn counts.
        design = Design([axis_w()], letters, pairs={"bb": Quantity(3), "aa": Quantity(99)}, swaps=[({"w": (0, 1)}, {"a": "b"})])
        self.just(design, "aa", -7)

    def test_what_comes_as_near_as_one_likes(self):
        rising = bar(10, 0, 10, rows=[FullRow(UP, [(0, 0), (6, 0)])])
        design = Design([axis_w()], {"a": rising, "b": bar(10, 5, 5)}, swaps=[({"w": (1, 1)}, {"a": "b"})])
        self.assertIs(clear(design, "aa", -6), None)
        setting, _ = self.touches(design, "aa", Ratio(-6) + NEARLY)
        self.assertTrue(setting["w"].under(Ratio(1)))

    def test_two_axes(self):
        axes = [Axis("v", least=0, home=0, most=1), axis_w()]
        both = Reach(v=Tent(0, 1, 1), w=Tent(0, 1, 1))
        letter = bar(10, 0, 10, rows=[FullRow(both, [(0, 0), (6, 0)])])
        design = Design(axes, {"a": letter, "b": bar(10, 5, 5)}, swaps=[({"w": (1, 1), "v": (1, 1)}, {"a": "b"})])
        self.assertIs(clear(design, "aa", -6), None)
        self.touches(design, "aa", Ratio(-6) + NEARLY)

    def test_random_designs_by_looking_close_around_all_places(self):
        words = {True: 0, False: 0}
        for seed in range(100):
            maker = Maker(seed, steps=2)
            design = maker.design(names=("w", "w", "vw", "")[seed % 4], letters="abc", rows=1)
            text = maker.text("abc", most=4)
            found = [gaps_by_hand(design, places, text) for places in settings_of(design)]
            least = min([gap for gaps in found for gap in gaps if gap is not None], default=None)
            # Near an end that does not belong to a cell there are gaps that are still a bit less than those looked at.
            step = NEARLY if maker.chance.random() < 0.5 else -NEARLY
            gap = maker.number() if least is None or maker.chance.random() < 0.5 else ratio(least) + step
            touches = least is not None and least < fraction(gap)
            words[touches] += 1
            if touches:
                self.touches(design, text, gap)
            else:
                self.assertIs(clear(design, text, gap), None)
        self.assertTrue(words[True] > 20 and words[False] > 20)

    def test_wrong_texts(self):
        design = document_design()
        for value in [*odd_values(), "abxa"]:
            if isinstance(value, str) and all(sign in "ab" for sign in value):
                continue
            sign = next((sign for sign in value if sign not in "ab"), None) if isinstance(value, str) else value
            self.refused(UnknownLetter(sign), clear, design, value, 0)
            self.refused(UnknownLetter(sign), check_touch, design, value, 0, None)


class CheckTouch(Case):
    def test_any_value(self):
        design = document_design()
        for value in odd_values():
            self.assertIs(check_touch(design, "abb", 11, value), False)
            self.assertIs(check_touch(design, "abb", 11, (value, 1)), False)
            right = value in (0, 1) and isinstance(value, int) and not isinstance(value, bool)
            self.assertIs(check_touch(design, "abb", 11, (Setting(weight=HALF), value)), right)

    def test_right_and_wrong(self):
        design, here = document_design(), Setting(weight=0)
        # a ab: 100 - 90 + 10 and 100 - 90 + 0; bb: 10.
        for index, gap, want in ((0, 20, False), (0, 21, True), (1, 10, False), (1, 11, True), (2, 10, False), (2, Ratio(21, 2), True),
                                 (3, 99, False), (-1, 99, False), (Ratio(1), 99, False), (True, 99, False)):
            self.assertIs(check_touch(design, "aabb", gap, (here, index)), want)
            self.assertIs(check_touch(design=design, text="aabb", gap=gap, thing=(here, index)), want)
        for wrong in ([here, 1], (here,), (here, 1, 1), (1, here), (Setting(), 1), (Setting(weight=2), 1), (Setting(weight=0, w=0), 1), (Setting(w=0), 1)):
            self.assertIs(check_touch(design, "aabb", 99, wrong), False)
