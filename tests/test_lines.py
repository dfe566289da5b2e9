"""The places of an axis at which a text is just so wide: the points [10], [12], [16] and the lines module."""

from betweenfaces.axes import Axis
from betweenfaces.designs import Design
from betweenfaces.errors import InvalidSetting, UnknownAxis, UnknownLetter
from betweenfaces.letters import Letter
from betweenfaces.lines import check_pieces, settings_of_width
from betweenfaces.quantities import Quantity
from betweenfaces.ratios import Ratio
from betweenfaces.settings import Setting
from betweenfaces.tents import Reach, Tent
from tests.drawn import told
from tests.examples import HALF, UP, axis_w
from tests.makers import Maker
from tests.oracle import fraction, ratio
from tests.plainly import TINY
from tests.sampling import sampled, width_by_hand
from tests.test_rising import document_design
from tests.values import Case, kind_of, odd_values

HERE = Setting(w=0)


def design_with(swaps=(), axes=None, **widths):
    return Design([axis_w()] if axes is None else axes, {name: Letter(width) for name, width in widths.items()}, swaps=swaps)


def texts(pieces):
    return [f"{'[' if with_low else '('}{low} {high}{']' if with_high else ')'}" for low, with_low, high, with_high in pieces]


class Lines(Case):
    def pieces(self, design, text, limit, want, axis="w", setting=HERE):
        ahead = kind_of(design)
        found = list(settings_of_width(design, text, limit, axis, setting))
        self.assertEqual(texts(found), want)
        for low, with_low, high, with_high in found:
            self.assertEqual([type(one) for one in (low, with_low, high, with_high)], [Ratio, bool, Ratio, bool])
        self.same(list(settings_of_width(design=design, text=text, limit=Ratio.of(limit), axis=axis, setting=setting)), found)
        for right in (found, tuple(found)):
            self.assertIs(check_pieces(design, text, limit, axis, setting, right), True)
        self.assertEqual(kind_of(design), ahead)

    def test_the_example_of_the_document(self):
        design, here = document_design(), Setting(weight=0)
        for limit, want in ((90, ["[1/2 3/4]"]), (105, ["[1/4 1/4]"]), (110, []), (Ratio(235, 2), ["[7/8 7/8]"]), (120, ["[1 1]"]), (100, ["[0 0]"])):
            self.pieces(design, "a", limit, want, "weight", here)

    def test_single_places_and_stretches(self):
        hill = Quantity(5, (Reach(w=Tent(0, HALF, 1)), 4))
        design = design_with(a=hill, b=Quantity(5))
        for limit, want in ((5, ["[0 0]", "[1 1]"]), (7, ["[1/4 1/4]", "[3/4 3/4]"]), (9, ["[1/2 1/2]"]), (10, []), (4, [])):
            self.pieces(design, "a", limit, want)
        self.pieces(design, "b", 5, ["[0 1]"])
        self.pieces(design, "b", 6, [])
        self.pieces(design, "", 0, ["[0 1]"])
        self.pieces(design, "", 1, [])
        flat = Quantity(5, (Reach(w=Tent(0, Ratio(1, 4), HALF)), 4), (Reach(w=Tent(HALF, Ratio(3, 4), 1)), 4))
        self.pieces(design_with(a=flat), "a", 5, ["[0 0]", "[1/2 1/2]", "[1 1]"])

    def test_both_sides_of_the_home(self):
        axis = Axis("w", least=-1, home=0, most=1)
        both = Quantity(5, (Reach(w=Tent(-1, -1, 0)), 4), (UP, 4))
        self.pieces(design_with(axes=[axis], a=both), "a", 7, ["[-1/2 -1/2]", "[1/2 1/2]"])
        self.pieces(design_with(axes=[axis], a=both), "a", 5, ["[0 0]"])
        # The home is a raw place, but no end of a piece.
        self.pieces(design_with(axes=[axis], a=Quantity(5)), "a", 5, ["[-1 1]"])
        self.pieces(design_with(axes=[axis], a=Quantity(5, (Reach(w=Tent(HALF, 1, 1)), 1))), "a", 5, ["[-1 1/2]"])

    def test_open_and_closed_ends_of_boxes(self):
        def swapped(*boxes, b=5, a=6):
            return design_with([({"w": box}, {"a": "b"}) for box in boxes], a=Quantity(a), b=Quantity(b))
        self.pieces(swapped((HALF, 1)), "a", 6, ["[0 1/2)"])
        self.pieces(swapped((HALF, 1)), "a", 5, ["[1/2 1]"])
        self.pieces(swapped((0, HALF)), "a", 6, ["(1/2 1]"])
        self.pieces(swapped((0, HALF)), "a", 5, ["[0 1/2]"])
        third = Ratio(1, 3)
        self.pieces(swapped((third, HALF)), "a", 6, ["[0 1/3)", "(1/2 1]"])
        # Two pieces that meet in a place that belongs to neither.
        self.pieces(swapped((HALF, HALF)), "a", 6, ["[0 1/2)", "(1/2 1]"])
        self.pieces(swapped((HALF, HALF)), "a", 5, ["[1/2 1/2]"])
        self.pieces(swapped((0, 0), (1, 1)), "a", 6, ["(0 1)"])
        self.pieces(swapped((0, 0), (1, 1)), "a", 5, ["[0 0]", "[1 1]"])
        # Pieces that are one: what is drawn is another letter, but as wide.
        self.pieces(swapped((HALF, HALF), (third, third), b=6), "a", 6, ["[0 1]"])
        self.pieces(swapped((0, third), (third, HALF)), "a", 5, ["[0 1/2]"])

    def test_ends_that_are_met_but_do_not_belong(self):
        rise = Quantity(5, (UP, 4))
        design = design_with([({"w": (HALF, HALF)}, {"a": "b"})], a=rise, b=Quantity(1))
        self.pieces(design, "a", 7, [])
        self.pieces(design, "a", 1, ["[1/2 1/2]"])
        design = design_with([({"w": (HALF, 1)}, {"a": "b"})], a=rise, b=Quantity(7))
        self.pieces(design, "a", 7, ["[1/2 1]"])
        design = design_with([({"w": (0, HALF)}, {"a": "b"})], a=rise, b=Quantity(7))
        self.pieces(design, "a", 7, ["[0 1/2]"])

    def test_bends_with_flat_stretches(self):
        axis = Axis("w", least=0, home=0, most=4, bend=[(0, 0), (1, 2), (3, 2), (4, 4)])
        design = design_with(axes=[axis], a=Quantity(10, (Reach(w=Tent(0, 4, 4)), 4)))
        self.pieces(design, "a", 12, ["[1 3]"])
        self.pieces(design, "a", 11, ["[1/2 1/2]"])

    def test_other_axes_stay_as_in_the_setting(self):
        axes = [Axis("v", least=0, home=0, most=1), axis_w()]
        both = Reach(v=Tent(0, 1, 1), w=Tent(0, 1, 1))
        design = design_with([({"v": (HALF, HALF), "w": (0, HALF)}, {"a": "b"})], axes, a=Quantity(5, (both, 4)), b=Quantity(9))
        for place in (0, HALF, 1):
            self.pieces(design, "a", 6, ["[1/4 1/4]"], setting=Setting(v=1, w=place))
            self.pieces(design, "a", 9, ["[0 1/2]"], setting=Setting(v=HALF, w=place))
            self.pieces(design, "a", 6, [], setting=Setting(v=HALF, w=place))
            self.pieces(design, "a", 5, ["[0 1]"], setting=Setting(v=0, w=place))
        self.pieces(design, "a", 9, ["[1/2 1/2]"], "v", Setting(v=1, w=HALF))

    def test_random_designs_by_looking_close_around_all_places(self):
        for seed in range(80):
            maker = Maker(seed)
            design = maker.design(names=("w", "vw", "vwx")[seed % 3], letters="abc")
            text, setting, axis = maker.text("abc", most=3), maker.setting(design.axes), maker.chance.choice(design.axes)
            limits = [maker.number(), ratio(width_by_hand(design, told(setting), text))]
            for limit in limits:
                found = list(settings_of_width(design, text, limit, axis.name, setting))
                self.assertIs(check_pieces(design, text, limit, axis.name, setting, found), True)
                looked_at = sampled(design, axis)
                for low, _, high, _ in found:
                    looked_at += [fraction(low) + step for step in (-TINY, 0, TINY)] + [fraction(high) + step for step in (-TINY, 0, TINY)]
                for place in looked_at:
                    if fraction(axis.least) <= place <= fraction(axis.most):
                        width = width_by_hand(design, {**told(setting), axis.name: place}, text)
                        self.assertEqual(any(self.holds(piece, place) for piece in found), width == fraction(limit))
                for before, behind in zip(found, found[1:]):
                    self.assertTrue(before[2].under(behind[0]) or (before[2] == behind[0] and not before[3] and not behind[1]))
                for low, with_low, high, with_high in found:
                    self.assertTrue(low.under(high) or (low == high and with_low and with_high))

    def holds(self, piece, place):
        low, with_low, high, with_high = piece
        return fraction(low) < place < fraction(high) or (with_low and place == fraction(low)) or (with_high and place == fraction(high))

    def test_asked_by_turns(self):
        design = design_with(a=Quantity(5, (Reach(w=Tent(0, HALF, 1)), 4)))
        one, other = settings_of_width(design, "a", 7, "w", HERE), settings_of_width(design, "a", 5, "w", HERE)
        found = [next(one), next(other), next(one), next(other)]
        self.assertEqual(texts(found), ["[1/4 1/4]", "[0 0]", "[3/4 3/4]", "[1 1]"])

    def test_errors_in_their_order(self):
        def asked(*args):
            return next(settings_of_width(*args), None)
        axes = [Axis("v", least=0, home=0, most=1), axis_w()]
        design = design_with(axes=axes, a=Quantity(5))
        right = Setting(v=0, w=0)
        for call, more in ((asked, ()), (check_pieces, (None,))):
            for value in odd_values():
                if value != "w":
                    self.refused(UnknownAxis(value), call, design, 7, 1, value, None, *more)
                if not isinstance(value, Setting):
                    self.refused(InvalidSetting(None), call, design, 7, 1, "w", value, *more)
                if not isinstance(value, str):
                    self.refused(UnknownLetter(value), call, design, value, 1, "w", right, *more)
            self.refused(UnknownAxis("u"), call, design, "x", 1, "w", Setting(u=0, x=0), *more)
            self.refused(InvalidSetting("v"), call, design, "x", 1, "w", Setting(w=0), *more)
            self.refused(InvalidSetting("w"), call, design, "x", 1, "w", Setting(v=0), *more)
            self.refused(InvalidSetting("w"), call, design, "x", 1, "w", Setting(v=0, w=2), *more)
            self.refused(UnknownLetter("x"), call, design, "axy", 1, "w", right, *more)


class CheckPieces(Case):
    def test_any_value(self):
        design = design_with(a=Quantity(5))
        for value in odd_values():
            self.assertIs(check_pieces(design, "a", 6, "w", HERE, value), isinstance(value, (list, tuple)) and len(value) == 0)
            self.assertIs(check_pieces(design, "a", 5, "w", HERE, [value]), False)
            for at in range(4):
                piece = [Ratio(0), True, Ratio(1), True]
                piece[at] = value
                right = (at == 0 and value == 0 and not isinstance(value, bool)) or (at == 2 and value == 1 and not isinstance(value, bool))
                self.assertIs(check_pieces(design, "a", 5, "w", HERE, [tuple(piece)]), right or (at in (1, 3) and value is True))

    def test_right_and_wrong(self):
        design = design_with([({"w": (HALF, HALF)}, {"a": "b"})], a=Quantity(6), b=Quantity(5))
        low, high = (0, True, HALF, False), (HALF, False, 1, True)
        for right in ([low, high], (low, high), [(Ratio(0), True, HALF, False), high]):
            self.assertIs(check_pieces(design, "a", 6, "w", HERE, right), True)
            self.assertIs(check_pieces(design=design, text="a", limit=6, axis="w", setting=HERE, thing=right), True)
        for wrong in ([], [low], [high], [high, low], [low, high, high], [low, low, high], [(0, True, 1, True)], [low, (HALF, True, 1, True)],
                      [(0, True, HALF, True), high], [(0, False, HALF, False), high], [low, (HALF, False, 1, False)], [list(low), high],
                      [(0, True, HALF), high], [(0, True, HALF, False, 0), high], [(0, 1, HALF, 0), high], [(0, True, Ratio(1, 3), False), high],
                      [(False, True, HALF, False), high], [("0", True, HALF, False), high], {0: low, 1: high}, "[0 1/2)"):
            self.assertIs(check_pieces(design, "a", 6, "w", HERE, wrong), False)
        # A stretch told in two pieces that meet in it is wrong.
        self.assertIs(check_pieces(design, "b", 5, "w", HERE, [(0, True, 1, True)]), True)
        self.assertIs(check_pieces(design, "b", 5, "w", HERE, [(0, True, HALF, False), (HALF, True, 1, True)]), False)
