"""The class Design: the points [2], [10] to [12] and [16] and the designs module."""

from betweenfaces.axes import Axis
from betweenfaces.designs import Design
from betweenfaces.drawing import picture
from betweenfaces.errors import InvalidDesign, UnknownAxis, UnknownLetter
from betweenfaces.letters import Letter
from betweenfaces.plain import plain
from betweenfaces.quantities import Quantity
from betweenfaces.ratios import Ratio
from betweenfaces.rooms import Room
from betweenfaces.rows import FullRow, SparseRow
from betweenfaces.settings import Setting
from betweenfaces.tents import Reach, Tent
from tests.drawn import in_ratios, inner_places, picture_at, told
from tests.examples import HALF, axis_w, drawn_design, jumping_design, nested_design
from tests.makers import Maker
from tests.plainly import raw_by_hand
from tests.values import Case, kind_of, odd_values

A = Letter(Quantity(1), [(0, 0)])
B = Letter(Quantity(2), parts=[("a", 0, 0)])


def two(**named):
    """A design of two axes and two letters, with what is told otherwise."""
    axes = [Axis("w", least=0, home=0, most=4), Axis("v", least=-1, home=1, most=1)]
    told_parts = {"axes": axes, "letters": {"a": A, "b": B}, **named}
    return Design(told_parts.pop("axes"), told_parts.pop("letters"), **told_parts)


def turned(letter, **tents):
    """A design of the letters a and b in which one reach stands in a row, a width or a pair."""
    reach = Reach.of(tents)
    letters = {"a": A, "b": B}
    if letter == "width":
        letters["b"] = Letter(Quantity(0, (Reach(w=Tent(0, 4, 4)), 1), (reach, 0)))
    if letter == "full":
        letters["b"] = Letter(Quantity(0), [(0, 0)], rows=[FullRow(reach, [(0, 0)])])
    if letter == "sparse":
        letters["a"] = Letter(Quantity(0), rows=[SparseRow(reach, {})])
    return two(letters=letters, pairs={"ba": Quantity(0, (reach, 0))} if letter == "pair" else None)


class Refused(Case):
    def wrong(self):
        """Wrong values for each argument, by the reason, in the order of the reasons."""
        w, v = axis_w(), Axis("v", least=0, home=0, most=1)
        yield "axes", "axes", [value for value in odd_values() if value not in ((), [])] + [
            [w, v, w], (v, v), [w, None], [w, "v"], [[w]], {"w": w}, w, [w, Axis("w", least=3, home=3, most=4)]]
        yield "letters", "letters", odd_values() + [
            {"a": None}, {"A": A}, {"aa": A}, {"": A}, {1: A}, {None: A}, {("a",): A}, {"a": A, "b": "a"}, [A], (("a", A),), {"a": [A]},
            {"a": A, "self": A}, {"a": Quantity(1)}]
        around = Letter(Quantity(1), parts=[("c", 0, 0)])
        yield "parts", "letters", [{"b": B}, {"a": Letter(Quantity(1), parts=[("a", 0, 0)])}, {"a": A, "c": around},
                                   {"c": B, "a": Letter(Quantity(1), parts=[("b", 0, 0)]), "b": around},
                                   {"a": A, "b": B, "d": Letter(Quantity(1), parts=[("b", 0, 0), ("x", 0, 0)])}]
        pair = Quantity(1)
        yield "pairs", "pairs", [value for value in odd_values() if value not in (None, {})] + [
            {"a": pair}, {"abc": pair}, {"ac": pair}, {"ca": pair}, {"aa": None}, {"aa": 1}, {("a", "b"): pair}, {7: pair}, {None: pair},
            {"ab": pair, "ba": A}, [("ab", pair)], {"AB": pair}, {"ab": pair, "": pair}]
        yield "swaps", "swaps", [value for value in odd_values() if value not in ((), [])] + [
            [value] for value in odd_values()] + [[({}, {"a": "b"}), value] for value in self.wrong_swaps()] + [[one] for one in self.wrong_swaps()]

    def wrong_swaps(self):
        tables = [{}, {"a": "c"}, {"c": "a"}, {"a": None}, {"a": ["b"]}, {1: "a"}, {"a": 1}, {("a",): "b"}, None, "ab", [("a", "b")],
                  {"a": "b", "b": "ab"}, {"aa": "a"}, {"": "a"}, {None: "a"}]
        boxes = [None, [], "w", {"x": (0, 1)}, {"w": 1}, {"w": (1,)}, {"w": (0, 1, 2)}, {"w": [0, 1]}, {"w": (1, 0)}, {"w": (-1, 0)},
                 {"w": (0, Ratio(9, 2))}, {"w": (5, 6)}, {"w": ("0", 1)}, {"w": (True, 1)}, {"w": (0, None)}, {None: (0, 1)}, {1: (0, 1)},
                 {"w": None}, {"w": (0, 1), "u": (0, 1)}, {"v": (0, 1), "w": (4, 3)}, {"v": (-2, 0)}, {("w",): (0, 1)}]
        return [({}, table) for table in tables] + [(box, {"a": "b"}) for box in boxes] + [
            [{}, {"a": "b"}], ({},), ({}, {"a": "b"}, {}), ({"a": "b"}, {}), (None, None)]

    def test_each_kind_of_wrong_value(self):
        for reason, name, values in self.wrong():
            for value in values:
                self.refused(InvalidDesign(reason), two, **{name: value})

    def test_the_first_reason_counts(self):
        told_wrong = [(reason, name, [value for value in values if value][-1]) for reason, name, values in self.wrong()]
        for at, (reason, name, value) in enumerate(told_wrong):
            for _, other, wrong in told_wrong[at + 1:]:
                if other != name:
                    self.refused(InvalidDesign(reason), two, **{name: value, other: wrong})
        self.refused(InvalidDesign("axes"), Design, None, None, pairs=1, swaps=1)
        self.refused(InvalidDesign("letters"), Design, [], {}, pairs=1, swaps=1)

    def test_reaches(self):
        for letter in ("width", "full", "sparse", "pair"):
            self.assertIsInstance(turned(letter, w=Tent(0, 1, 4)), Design)
            self.assertIsInstance(turned(letter, w=Tent(0, 4, 4), v=Tent(-1, -1, 1)), Design)
            for tents in ({"x": Tent(0, 1, 2)}, {"w": Tent(0, 0, 1)}, {"w": Tent(0, 1, 5)}, {"w": Tent(0, 1, 1)}, {"v": Tent(-1, 1, 1)},
                          {"w": Tent(0, 1, 2), "v": Tent(0, 1, 2)}, {"w": Tent(-1, 0, 1)}, {"w": Tent(0, 1, 2), "u": Tent(0, 1, 2)}):
                self.refused(InvalidDesign("reach"), lambda: turned(letter, **tents))
        reach = Quantity(0, (Reach(x=Tent(0, 1, 2)), 1))
        self.refused(InvalidDesign("swaps"), two, letters={"a": Letter(reach)}, swaps=[1])
        self.refused(InvalidDesign("pairs"), two, letters={"a": Letter(reach)}, pairs={"aa": 1})

    def test_all_others_are_made(self):
        for named in ({}, {"axes": []}, {"axes": ()}, {"axes": (axis_w(),)}, {"letters": {"a": A}}, {"pairs": {}}, {"pairs": None},
                      {"pairs": {"aa": Quantity(0), "ba": Quantity(1)}}, {"swaps": []}, {"swaps": ()},
                      {"swaps": (({}, {"a": "a"}), ({"w": (0, 0), "v": (-1, 1)}, {"b": "a", "a": "b"}))},
                      {"swaps": [({"w": (4, 4)}, {"a": "a"})]}):
            self.assertIsInstance(two(**named), Design)
        letters = {chr(ord("a") + at): Letter(Quantity(at)) for at in range(26)}
        self.assertEqual(len(Design(axes=(), letters=letters, pairs=None, swaps=())), 26)

    def test_what_is_passed_may_be_changed_later(self):
        axis = axis_w()
        axes, letters, pairs, box, table = [axis], {"a": A}, {"aa": Quantity(1)}, {"w": (0, 1)}, {"a": "a"}
        swaps = [(box, table)]
        ahead = kind_of((axes, letters, pairs, swaps))
        design = Design(axes, letters, pairs=pairs, swaps=swaps)
        self.assertEqual(kind_of((axes, letters, pairs, swaps)), ahead)
        kept = kind_of(design)
        axis.bend = [(0, 0), (HALF, 1), (1, 1)]
        for changed in (axes, letters, pairs, box, table, swaps):
            changed.clear()
        self.assertEqual(kind_of(design), kept)
        self.assertEqual((design.axes, design.pairs, design.swaps), ([axis_w()], {"aa": Quantity(1)}, [({"w": (Ratio(0), Ratio(1))}, {"a": "a"})]))


class Told(Case):
    def design(self):
        swaps = [({"w": (0, 1), "v": (0, 0)}, {"b": "a", "a": "b"}), ({}, {"a": "a"})]
        return two(pairs={"ba": Quantity(1), "aa": Quantity(0)}, swaps=swaps)

    def test_parts(self):
        design = self.design()
        self.same(design.axes, [Axis("v", least=-1, home=1, most=1), Axis("w", least=0, home=0, most=4)])
        self.same(design.names, ["a", "b"])
        self.same(design.pairs, {"aa": Quantity(0), "ba": Quantity(1)})
        zero, one = Ratio(0), Ratio(1)
        self.same(design.swaps, [({"v": (zero, zero), "w": (zero, one)}, {"a": "b", "b": "a"}), ({}, {"a": "a"})])
        self.same(design.room, Room(v=(-1, 1, 1), w=(0, 0, 4)))
        self.same(design.homes, Setting(v=1, w=0))
        self.same(design.axis("w"), Axis("w", least=0, home=0, most=4))
        self.same(design["b"], B)
        self.assertEqual((len(design), list(design), [name for name in design]), (2, ["a", "b"], ["a", "b"]))
        self.assertEqual((list(Design([], {"z": A, "a": A, "m": A})), bool(design)), (["a", "m", "z"], True))

    def test_without_axes(self):
        design = Design([], {"a": A})
        self.same((design.axes, design.names, design.pairs, design.swaps), ([], ["a"], {}, []))
        self.same((design.room, design.homes, design.cells), (Room(), Setting(), 1))

    def test_what_is_told_is_new(self):
        design = self.design()
        kept = kind_of(design)
        for call in (lambda: design.axes, lambda: design.names, lambda: design.pairs, lambda: design.swaps, lambda: design.swaps[0][0],
                     lambda: design.swaps[0][1]):
            want = call()
            call().clear()
            self.same(call(), want)
        design.axes[1].bend = [(0, 0), (1, 2), (4, 4)]
        design.axis("w").change([(0, 0), (1, 2), (4, 4)])
        self.assertEqual((kind_of(design), design.axis("w").bend), (kept, ()))

    def test_unknown_axes_and_letters(self):
        design = self.design()
        self.assertEqual(str(design.axis(name="v")), "axis v -1 1 1")
        for value in [*odd_values(), "v ", ["w"], "x"]:
            if value not in ("v", "w"):
                self.refused(UnknownAxis(value), design.axis, value)
            self.assertIs(value in design, value in ("a", "b") and isinstance(value, str))
            if value not in ("a", "b"):
                with self.assertRaises(UnknownLetter) as caught:
                    design[value]
                self.assertIs(caught.exception.name, value)

    def test_bends_are_kept(self):
        axis = Axis("w", least=0, home=0, most=4, bend=[(0, 0), (1, 2), (4, 4)])
        design = Design([axis], {"a": A})
        self.same(design.axes, [axis])
        self.same(design.axis("w"), axis)


class Equal(Case):
    def test_the_same_parts_in_any_order_of_keys(self):
        axes = [Axis("w", least=0, home=0, most=4), Axis("v", least=-1, home=1, most=1)]
        pairs, swaps = {"ab": Quantity(1), "ba": Quantity(0)}, [({"w": (0, 1), "v": (0, 0)}, {"a": "b", "b": "a"})]
        one = Design(axes, {"a": A, "b": B}, pairs=pairs, swaps=swaps)
        other = Design(tuple(axes[::-1]), {"b": B, "a": A}, pairs={"ba": Quantity(0), "ab": Quantity(1)},
                       swaps=(({"v": (0, 0), "w": (0, 1)}, {"b": "a", "a": "b"}),))
        self.equal(one, other)
        self.same(one, other)
        self.equal(two(), two(pairs={}, swaps=[]))
        self.equal_to_none(one)

    def test_one_part_otherwise(self):
        swap, more = ({"w": (0, 1)}, {"a": "b"}), ({}, {"b": "a"})
        same = two(pairs={"ab": Quantity(1)}, swaps=[swap, more])
        v, w = same.axes
        designs = [
            same, two(pairs={"ab": Quantity(1)}, swaps=[more, swap]), two(pairs={"ab": Quantity(1)}, swaps=[swap]),
            two(pairs={"ab": Quantity(1), "aa": Quantity(0)}, swaps=[swap, more]), two(pairs={"ab": Quantity(2)}, swaps=[swap, more]),
            two(swaps=[swap, more]), two(pairs={"ab": Quantity(1)}, swaps=[({"w": (0, 2)}, {"a": "b"}), more]),
            two(pairs={"ab": Quantity(1)}, swaps=[({"w": (0, 1)}, {"a": "a"}), more]),
            two(pairs={"ab": Quantity(1)}, swaps=[({"w": (0, 1), "v": (-1, 1)}, {"a": "b"}), more]),
            two(pairs={"ab": Quantity(1)}, swaps=[swap, more], letters={"a": Letter(Quantity(1)), "b": B}),
            two(pairs={"ab": Quantity(1)}, swaps=[swap, more], letters={"a": A, "b": B, "c": A}),
            two(pairs={"ab": Quantity(1)}, swaps=[swap, more], axes=[v, Axis("w", least=0, home=4, most=4)]),
            two(pairs={"ab": Quantity(1)}, swaps=[swap, more], axes=[v, Axis("w", least=0, home=0, most=5)]),
            two(pairs={"ab": Quantity(1)}, swaps=[swap, more], axes=[v, Axis("w", least=0, home=0, most=4, bend=[(0, 0), (4, 4)])]),
            two(pairs={"ab": Quantity(1)}, swaps=[swap, more], axes=[w]),
            two(pairs={"ab": Quantity(1)}, swaps=[swap, more], axes=[v, w, Axis("x", least=0, home=0, most=1)]),
        ]
        for at, one in enumerate(designs):
            for number, other in enumerate(designs):
                (self.equal if at == number else self.unequal)(one, other)


class Cells(Case):
    def by_hand(self, design):
        """The number of the cells that all things make together."""
        things = list(design) + [one + other for one in design for other in design]
        raw = [raw_by_hand(design, thing) for thing in things]
        many = 1
        for axis in design.axes:
            places = {(str(place), mark) for told_places in raw for place, mark in told_places[axis.name]}
            marks = {place for place, mark in places if mark}
            many *= len({place for place, _ in places}) - 1 + len(marks)
        return many

    def test_random_designs(self):
        for seed in range(60):
            design = Maker(seed).design(names=("", "w", "wt", "xyz")[seed % 4])
            self.assertEqual(design.cells, self.by_hand(design))
            turned_swaps = Design(design.axes, {name: design[name] for name in design}, pairs=design.pairs, swaps=design.swaps[::-1])
            self.assertEqual(turned_swaps.cells, design.cells)

    def test_examples(self):
        self.assertEqual([jumping_design().cells, drawn_design().cells, nested_design().cells], [3, 2, 1])
        self.assertEqual(two().cells, 1)
        axes = [Axis("w", least=0, home=2, most=4), Axis("v", least=0, home=0, most=1)]
        self.assertEqual(Design(axes, {"a": A}).cells, 2)
        # The tents of shifts and of widths count, also those of rows that are 0.
        self.assertEqual(two(pairs={"ab": Quantity(0, (Reach(w=Tent(1, 2, 3)), 0))}).cells, 4)


class Drawn(Case):
    def test_a_design_draws_as_picture_does(self):
        for seed in range(12):
            maker = Maker(seed)
            design = maker.design(names="xyz", letters="abcdefgh", swaps=4)
            for setting, text in [(maker.setting(design.axes), maker.text("abcdefgh", 20)) for _ in range(3)]:
                want = in_ratios(picture_at(design, inner_places(design, told(setting)), text))
                self.same(design(setting, text), want)
                self.same(picture(design, setting, text), want)

    def test_the_answers_stay(self):
        one, other = Maker(1).design(), Maker(2).design()
        setting, there = one.homes, other.homes
        want = one(setting, "abcd"), other(there, "dcba")
        for _ in range(2):
            rounds, _ = one(setting, "abcd")
            rounds.clear()
            self.same((one(setting, "abcd"), other(there, "dcba")), want)
            one.axes[0].bend = ()
            one.pairs.clear()
            plain(one)

    def test_methods_stand_in_the_class_itself(self):
        for name in ("axis", "cut", "joined", "without", "changed", "__contains__", "__getitem__", "__len__", "__iter__", "__call__", "__eq__"):
            self.assertIn(name, vars(Design))
        for name in ("room", "homes", "cells"):
            self.assertIsInstance(vars(Design)[name], property)
