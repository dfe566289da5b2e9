"""Raw places, marks, cells and values: the points [14] to [16] and the cells module."""

import itertools

from betweenfaces.axes import Axis
from betweenfaces.cells import cells_of, corners, drawn_in, inner_settings, places_of, value_at, value_in
from betweenfaces.designs import Design
from betweenfaces.errors import InvalidSetting, UnknownAxis, UnknownLetter
from betweenfaces.letters import Letter
from betweenfaces.quantities import Quantity
from betweenfaces.ratios import Ratio
from betweenfaces.rows import FullRow
from betweenfaces.settings import Setting
from betweenfaces.tents import Reach, Tent
from tests.drawn import drawn_as_at, in_ratios, inner_places, thing_at, told, value_drawn_as
from tests.examples import HALF, drawn_design, jumping_design
from tests.makers import Maker
from tests.plainly import raw_by_hand
from tests.values import Case, odd_values

QUARTER = Ratio(1, 4)


def texts(told_places):
    return {name: [f"{place}{'!' if mark else ''}" for place, mark in places] for name, places in told_places.items()}


def bent(bend=((0, 0), (1, 2), (3, 2), (4, 4)), **named):
    return Axis("w", least=0, home=0, most=4, bend=bend, **named)


def lies_in(cell, setting):
    """Whether a setting belongs to a cell."""
    for name, (low, with_low, high, with_high) in cell.items():
        place = setting[name]
        above = low.under(place) or (with_low and low == place)
        if not above or not (place.under(high) or (with_high and place == high)):
            return False
    return True


class Places(Case):
    def test_random_designs(self):
        for seed in range(60):
            design = Maker(seed).design(names=("", "w", "wt", "xyz")[seed % 4])
            for thing in ("a", "d", "ab", "ba", "cc", "dd"):
                self.same(places_of(design, thing), raw_by_hand(design, thing))

    def test_without_anything_there_are_the_ends_and_the_home(self):
        axes = [Axis("w", least=0, home=1, most=4), Axis("v", least=0, home=4, most=4)]
        design = Design(axes, {"a": Letter(Quantity(1))})
        self.assertEqual(texts(places_of(design, "a")), {"v": ["0", "4"], "w": ["0", "1", "4"]})
        self.assertEqual(list(places_of(design, "aa")), ["v", "w"])

    def test_knots_and_tents_behind_a_flat_stretch(self):
        wide = Quantity(0, (Reach(w=Tent(2, 3, 4)), 1))
        design = Design([bent()], {"a": Letter(wide), "b": Letter(Quantity(0))})
        self.assertEqual(texts(places_of(design, "a")), {"w": ["0", "1", "3", "7/2", "4"]})
        self.assertEqual(texts(places_of(design, "b")), {"w": ["0", "1", "3", "4"]})

    def test_marks_of_boxes(self):
        letters = {"a": Letter(Quantity(0)), "b": Letter(Quantity(0))}
        for box, want in (((0, 4), ["0", "1", "3", "4"]), ((0, 0), ["0!", "1", "3", "4"]), ((4, 4), ["0", "1", "3", "4!"]),
                          ((2, 2), ["0", "1!", "3!", "4"]), ((2, 3), ["0", "1!", "3", "7/2!", "4"]),
                          ((1, 2), ["0", "1/2!", "1", "3!", "4"])):
            design = Design([bent()], letters, swaps=[({"w": box}, {"a": "b"})])
            for thing in ("a", "ab", "ba", "aa"):
                self.assertEqual(texts(places_of(design, thing)), {"w": want}, (box, thing))
            for thing in ("b", "bb"):
                self.assertEqual(texts(places_of(design, thing)), {"w": ["0", "1", "3", "4"]})

    def test_a_place_that_is_a_mark_of_one_box_only(self):
        letters = {"a": Letter(Quantity(0))}
        swaps = [({"w": (0, 1)}, {"a": "a"}), ({"w": (1, 4)}, {"a": "a"}), ({"w": (0, 0)}, {"a": "a"})]
        design = Design([Axis("w", least=0, home=0, most=4)], letters, swaps=swaps)
        self.assertEqual(texts(places_of(design, "a")), {"w": ["0!", "1!", "4"]})

    def test_the_tents_of_all_letters_that_may_be_drawn(self):
        def row(peak, spots):
            return [FullRow(Reach(w=Tent(0, peak, 4)), [(0, 0)] * spots)]
        letters = {
            "a": Letter(Quantity(0), [(0, 0)], rows=row(1, 1)),
            "b": Letter(Quantity(0, (Reach(w=Tent(0, 2, 4)), 1)), [(0, 0)], parts=[("c", 0, 0)], rows=row(3, 2)),
            "c": Letter(Quantity(0, (Reach(w=Tent(0, Ratio(1, 3), 4)), 1)), [(0, 0)], parts=[("d", 0, 0)], rows=row(Ratio(5, 2), 2)),
            "d": Letter(Quantity(0), [(0, 0)], rows=row(Ratio(7, 2), 1)),
        }
        pairs = {"ab": Quantity(0, (Reach(w=Tent(0, HALF, 4)), 1)), "bb": Quantity(0, (Reach(w=Tent(0, QUARTER, 4)), 0))}
        axis = Axis("w", least=0, home=0, most=4)
        design = Design([axis], letters, pairs=pairs, swaps=[({}, {"a": "b"})])
        # The width of c does not count for b: its outline alone is a part of b.
        self.assertEqual(texts(places_of(design, "a")), {"w": ["0", "1", "2", "5/2", "3", "7/2", "4"]})
        self.assertEqual(texts(places_of(design, "b")), {"w": ["0", "2", "5/2", "3", "7/2", "4"]})
        self.assertEqual(texts(places_of(design, "c")), {"w": ["0", "1/3", "5/2", "7/2", "4"]})
        self.assertEqual(texts(places_of(design, "d")), {"w": ["0", "7/2", "4"]})
        self.assertEqual(texts(places_of(design, "ab")), {"w": ["0", "1/4", "1/2", "4"]})
        self.assertEqual(texts(places_of(design, "bb")), {"w": ["0", "1/4", "4"]})
        self.assertEqual(texts(places_of(design, "cd")), {"w": ["0", "4"]})

    def test_what_is_told_is_new(self):
        design = drawn_design()
        told_places = places_of(design, "b")
        told_places["w"].clear()
        told_places.clear()
        self.assertEqual(texts(places_of(design=design, thing="b")), {"w": ["0", "1!"]})


class Cells(Case):
    def test_the_spans_of_one_axis(self):
        design = jumping_design()
        want = [(Ratio(0), True, HALF, False), (HALF, True, HALF, True), (HALF, False, Ratio(1), True)]
        self.same(list(cells_of(design, "i")), [{"w": span} for span in want])
        self.same(list(cells_of(design, "j")), [{"w": (Ratio(0), True, Ratio(1), True)}])
        letters = {"a": Letter(Quantity(0))}
        swaps = [({"w": (0, 0)}, {"a": "a"}), ({"w": (1, 1)}, {"a": "a"})]
        ends = Design([Axis("w", least=0, home=0, most=1)], letters, swaps=swaps)
        want = [(Ratio(0), True, Ratio(0), True), (Ratio(0), False, Ratio(1), False), (Ratio(1), True, Ratio(1), True)]
        self.same(list(cells_of(ends, "a")), [{"w": span} for span in want])

    def test_the_last_axis_changes_fastest(self):
        axes = [Axis("b", least=0, home=1, most=2), Axis("a", least=0, home=1, most=2)]
        design = Design(axes, {"a": Letter(Quantity(0))})
        lows = [(str(cell["a"][0]), str(cell["b"][0])) for cell in cells_of(design, "a")]
        self.assertEqual(lows, [("0", "0"), ("0", "1"), ("1", "0"), ("1", "1")])
        cell = list(cells_of(design=design, thing="aa"))[1]
        self.assertEqual([str(setting) for setting in corners(cell)], ["a=0 b=1", "a=0 b=2", "a=1 b=1", "a=1 b=2"])
        self.assertEqual([str(setting) for setting in inner_settings(cell)],
                         ["a=1/3 b=4/3", "a=1/3 b=5/3", "a=2/3 b=4/3", "a=2/3 b=5/3"])

    def test_without_axes(self):
        design = Design([], {"a": Letter(Quantity(3))})
        self.assertEqual(list(cells_of(design, "a")), [{}])
        self.same(corners({}), [Setting()])
        self.same(inner_settings({}), [Setting()])
        self.assertEqual(drawn_in(design, "aa", {}), "aa")
        self.same(value_in(design, "a", {}, Setting()), ([], Ratio(3)))
        self.same(value_at(design, "a", Setting()), ([], Ratio(3)))

    def test_ends_of_spans(self):
        one = {"w": (HALF, True, HALF, True), "v": (Ratio(0), False, Ratio(3), False)}
        self.assertEqual([str(setting) for setting in corners(one)], ["v=0 w=1/2", "v=3 w=1/2"])
        self.assertEqual([str(setting) for setting in inner_settings(one)], ["v=1 w=1/2", "v=2 w=1/2"])
        self.same(corners(cell=one), corners({"v": one["v"], "w": one["w"]}))
        self.same(inner_settings(cell=one), inner_settings({"v": one["v"], "w": one["w"]}))
        corners(one).clear()
        self.assertEqual(len(corners(one)), 2)

    def test_each_setting_lies_in_one_cell(self):
        for seed in range(20):
            maker = Maker(seed)
            design = maker.design(names=("w", "wt")[seed % 2])
            for thing in ("a", "bc"):
                cells = list(cells_of(design, thing))
                for setting in [maker.setting(design.axes) for _ in range(10)]:
                    held = [cell for cell in cells if lies_in(cell, setting)]
                    self.assertTrue(held)
                    # Cells that a place without a mark belongs to are two at least; all are drawn as the thing is there.
                    for cell in held:
                        self.same(value_in(design, thing, cell, setting), value_at(design, thing, setting))
                        at = inner_places(design, told(setting))
                        self.assertEqual(drawn_in(design, thing, cell), "".join(drawn_as_at(design, at, name) for name in thing))
                for cell in cells:
                    self.assertTrue(all(lies_in(cell, setting) for setting in inner_settings(cell)))

    def test_cells_by_turns(self):
        design = jumping_design()
        one, two = cells_of(design, "i"), cells_of(design, "i")
        first = next(one)
        self.assertEqual(next(two), first)
        first.clear()
        self.assertEqual([len(list(one)), len(list(two))], [2, 2])
        self.assertEqual(len(next(cells_of(design, "i"))), 1)


class Values(Case):
    def test_values_continued_from_a_cell(self):
        design = jumping_design()
        below, at, above = cells_of(design, "i")
        self.assertEqual([drawn_in(design, "i", cell) for cell in (below, at, above)], ["i", "j", "j"])
        self.assertEqual(drawn_in(design, "ij", below), "ij")
        self.assertEqual(drawn_in(design, "ii", at), "jj")
        # The corner at 1/2 does not belong to the cell below it.
        self.same(value_in(design, "i", below, Setting(w=HALF)), ([], Ratio(13)))
        self.same(value_in(design, "i", at, Setting(w=HALF)), ([], Ratio(20)))
        self.same(value_in(design=design, thing="i", cell=below, corner=Setting(w=QUARTER)), ([], Ratio(23, 2)))
        self.same(value_at(design=design, thing="i", setting=Setting(w=HALF)), ([], Ratio(20)))
        self.assertEqual(drawn_in(design=design, thing="i", cell=below), "i")

    def test_random_values(self):
        for seed in range(40):
            maker = Maker(seed)
            design = maker.design(names=("", "w", "wt", "xyz")[seed % 4])
            for thing in ("a", "d", "ab", "dd"):
                setting = maker.setting(design.axes)
                at = inner_places(design, told(setting))
                self.same(value_at(design, thing, setting), in_ratios(thing_at(design, at, thing)))
            cells = list(itertools.islice(cells_of(design, "bd"), 6))
            for cell, corner in [(cell, corner) for cell in cells for corner in corners(cell)]:
                at = inner_places(design, told(corner))
                want = value_drawn_as(design, at, drawn_in(design, "bd", cell))
                self.same(value_in(design, "bd", cell, corner), in_ratios(want))

    def test_values_belong_to_the_caller(self):
        design = drawn_design()
        rounds, _ = value_at(design, "b", Setting(w=0))
        rounds[0].append(1)
        rounds.clear()
        self.assertEqual(len(value_at(design, "b", Setting(w=0))[0]), 2)


class Wrong(Case):
    def test_things(self):
        design = drawn_design()
        cell = {"w": (Ratio(0), True, Ratio(1), False)}
        calls = [lambda thing: places_of(design, thing), lambda thing: next(cells_of(design, thing)),
                 lambda thing: drawn_in(design, thing, cell), lambda thing: value_in(design, thing, cell, Setting(w=0)),
                 lambda thing: value_at(design, thing, Setting(w=0)), lambda thing: value_at(design, thing, None),
                 lambda thing: value_at(design, thing, Setting(x=3))]
        for call in calls:
            for thing in [*odd_values(), "aba", "ac", "ca", "b ", "B", ["a"], ("a", "b")]:
                if thing not in ("a", "ab"):
                    self.refused(UnknownLetter(thing), call, thing)

    def test_settings(self):
        design = drawn_design()
        for thing in ("a", "ab"):
            self.refused(InvalidSetting(None), value_at, design, thing, {"w": 0})
            self.refused(UnknownAxis("a"), value_at, design, thing, Setting(b=0, a=0))
            self.refused(InvalidSetting("w"), value_at, design, thing, Setting())
            self.refused(InvalidSetting("w"), value_at, design, thing, Setting(w=2))
