"""Forms, their values and their reasons: the point [17] and the forms module."""

from betweenfaces.axes import Axis
from betweenfaces.cells import value_at
from betweenfaces.designs import Design
from betweenfaces.errors import InvalidSetting, UnknownAxis, UnknownLetter
from betweenfaces.forms import at_form, form, forms, reasons
from betweenfaces.flatten import flattened
from betweenfaces.letters import Letter
from betweenfaces.plain import plain
from betweenfaces.quantities import Quantity
from betweenfaces.ratios import Ratio
from betweenfaces.rooms import Room
from betweenfaces.settings import Setting
from betweenfaces.sparse import full, sparse
from betweenfaces.tents import Reach, Tent
from tests.examples import HALF, UP, axis_w, drawn_design, jumping_design
from tests.makers import Maker
from tests.oracle import fraction
from tests.plainly import form_by_hand, turn_by_hand
from tests.values import Case, odd_values

NOTHING = ([], Ratio(0))


def places(told):
    """The places of a form as texts, jumps with an exclamation mark."""
    return {name: [f"{place}{'!' if jump else ''}" for place, jump in own] for name, own in told[0]}


def letters_with(**widths):
    return {name: Letter(width) for name, width in widths.items()}


class Forms(Case):
    def test_the_example_of_the_document(self):
        want = ([("w", [(Ratio(0), False), (HALF, True), (Ratio(1), False)])],
                [[([], Ratio(10)), ([], Ratio(13))], [([], Ratio(20))], [([], Ratio(20)), ([], Ratio(20))]])
        self.same(form(jumping_design(), "i"), want)
        self.same(form(design=jumping_design(), thing="i"), want)

    def test_without_axes(self):
        design = Design([], letters_with(a=Quantity(3)), pairs={"aa": Quantity(2)})
        self.same(form(design, "a"), ([], [[([], Ratio(3))]]))
        self.same(form(design, "aa"), ([], [[Ratio(2)]]))

    def test_random_designs_by_looking_at_values_alone(self):
        for seed in range(60):
            design = Maker(seed).design(names=("", "w", "wt")[seed % 3])
            for thing in ("a", "d", "ab", "dd")[seed % 2::2]:
                self.same(form(design, thing), form_by_hand(design, thing))
        for seed in range(3):
            design = Maker(seed, steps=2).design(names="xyz", letters="ab")
            self.same(form(design, "b"), form_by_hand(design, "b"))

    def test_a_place_is_there_only_if_something_turns_there(self):
        axis = Axis("w", least=0, home=1, most=4, bend=[(0, 0), (1, 1), (2, 2), (4, 4)])
        up = Reach(w=Tent(1, 2, 4))
        design = Design([axis], letters_with(a=Quantity(1, (up, 3), (up, -3)), b=Quantity(1, (up, 3))))
        self.assertEqual(places(form(design, "a")), {"w": ["0", "4"]})
        self.assertEqual(places(form(design, "b")), {"w": ["0", "1", "2", "4"]})
        self.assertEqual(places(form(design, "bb")), {"w": ["0", "4"]})

    def test_a_home_without_a_bend_is_no_place(self):
        axis = Axis("w", least=0, home=1, most=4)
        wide = Quantity(1, (Reach(w=Tent(1, 4, 4)), 6), (Reach(w=Tent(0, 0, 1)), -2))
        design = Design([axis], letters_with(a=wide))
        self.same(form(design, "a"), ([("w", [(Ratio(0), False), (Ratio(4), False)])], [[([], Ratio(-1)), ([], Ratio(7))]]))

    def test_a_swap_that_changes_nothing_makes_no_jump(self):
        letters = letters_with(a=Quantity(5, (UP, 1)), b=Quantity(5, (UP, 1)))
        design = Design([axis_w()], letters, swaps=[({"w": (HALF, HALF)}, {"a": "b"})])
        self.same(form(design, "a"), form(design, "b"))
        # A corner stands at a raw mark that is no jump, and the letters on both sides bend into each other.
        letters["b"] = Letter(Quantity(Ratio(11, 2)))
        design = Design([axis_w()], letters, swaps=[({"w": (HALF, 1)}, {"a": "b"})])
        want = ([("w", [(Ratio(0), False), (HALF, False), (Ratio(1), False)])],
                [[([], Ratio(5)), ([], Ratio(11, 2))], [([], Ratio(11, 2)), ([], Ratio(11, 2))]])
        self.same(form(design, "a"), want)

    def test_jumps_at_the_ends(self):
        letters = letters_with(a=Quantity(5), b=Quantity(6))
        design = Design([axis_w()], letters, swaps=[({"w": (0, 0)}, {"a": "b"}), ({"w": (1, 1)}, {"a": "b"})])
        told = form(design, "a")
        self.assertEqual(places(told), {"w": ["0!", "1!"]})
        self.same(told[1], [[([], Ratio(6))], [([], Ratio(5)), ([], Ratio(5))], [([], Ratio(6))]])
        self.assertEqual([reason[2] for reason in reasons(design, "a")], ["jump", "jump"])

    def test_other_rounds_or_points_jump(self):
        point = (Ratio(0), Ratio(0))
        letters = {"a": Letter(Quantity(1), [point]), "b": Letter(Quantity(1), [point, point]),
                   "c": Letter(Quantity(1), [point], [point])}
        design = Design([axis_w()], letters, swaps=[({"w": (HALF, 1)}, {"a": "b", "b": "c"})])
        self.assertEqual(places(form(design, "a")), {"w": ["0", "1/2!", "1"]})
        self.assertEqual(places(form(design, "b")), {"w": ["0", "1/2!", "1"]})
        self.assertEqual(places(form(design, "c")), {"w": ["0", "1"]})

    def test_a_jump_for_one_place_of_another_axis(self):
        axes = [Axis("v", least=0, home=0, most=1), axis_w()]
        letters = letters_with(a=Quantity(1), b=Quantity(2))
        design = Design(axes, letters, swaps=[({"v": (1, 1), "w": (HALF, 1)}, {"a": "b"})])
        told = form(design, "a")
        self.assertEqual(places(told), {"v": ["0", "1!"], "w": ["0", "1/2!", "1"]})
        self.assertEqual(len(told[1]), 6)
        self.assertEqual([(name, str(place), word, str(setting)[:6]) for name, place, word, setting in reasons(design, "a")],
                         [("v", "1", "jump", "w=1/2"), ("w", "1/2", "jump", "v=1")])

    def test_a_jump_in_one_place_that_is_equal_at_the_corners(self):
        # x of a is w v, x of b is 0: they are equal on the lines v 0 and w 0 alone.
        axes = [Axis("v", least=0, home=0, most=1), axis_w()]
        both = Reach(v=Tent(0, 1, 1), w=Tent(0, 1, 1))
        letters = letters_with(a=Quantity(0, (both, 4)), b=Quantity(0))
        design = Design(axes, letters, swaps=[({"w": (HALF, 1)}, {"a": "b"})])
        self.assertEqual(places(form(design, "a")), {"v": ["0", "1"], "w": ["0", "1/2!", "1"]})
        self.assertEqual(form(design, "a")[1][0], [NOTHING, NOTHING, NOTHING, ([], Ratio(2))])

    def test_pairs_are_those_of_the_letters_drawn(self):
        letters = letters_with(a=Quantity(1), b=Quantity(2))
        design = Design([axis_w()], letters, pairs={"bb": Quantity(7)}, swaps=[({"w": (HALF, 1)}, {"a": "b"})])
        told = form(design, "ab")
        self.same(told[1], [[Ratio(0), Ratio(0)], [Ratio(7)], [Ratio(7), Ratio(7)]])
        self.assertEqual(places(form(design, "bb")), {"w": ["0", "1"]})

    def test_however_the_design_says_it(self):
        for seed in range(40):
            maker = Maker(seed)
            design = maker.design(names=("", "w", "wt", "wt")[seed % 4])
            others = [plain(design), flattened(design), flattened(design, "d"), sparse(design), full(design)]
            for axis in design.axes:
                home = maker.place(axis)
                others.append(design.cut(Room.of({axis.name: (axis.least, home, axis.most)})))
            for thing in ("a", "d", "bc"):
                for other in others:
                    self.same(form(other, thing), form(design, thing))

    def test_rows_in_two_parts(self):
        one = Design([axis_w()], letters_with(a=Quantity(1, (UP, 3))))
        two = Design([axis_w()], letters_with(a=Quantity(1, (UP, 1), (UP, 2))))
        three = Quantity(1, (Reach(w=Tent(0, HALF, 1)), Ratio(3, 2)), (Reach(w=Tent(HALF, 1, 1)), 3))
        for other in (two, Design([axis_w()], letters_with(a=three))):
            self.same(form(one, "a"), form(other, "a"))

    def test_new_each_time(self):
        design = drawn_design()
        axes, table = form(design, "b")
        axes[0][1].clear()
        axes.clear()
        table[0][0][0][0].clear()
        table[0].clear()
        table.clear()
        again = form(design, "b")
        self.assertEqual(len(again[1][0][0][0]), 2)
        # No two values share a list.
        again[1][0][0][0][0].append(1)
        self.assertEqual(len(again[1][0][1][0][0]), 1)

    def test_wrong_things(self):
        for value in odd_values():
            if value not in ("a", "ab"):
                self.refused(UnknownLetter(value), form, drawn_design(), value)
                self.refused(UnknownLetter(value), reasons, drawn_design(), value)


class AllForms(Case):
    def test_letters_and_then_pairs_with_a_shift(self):
        letters = letters_with(b=Quantity(1), a=Quantity(2), c=Quantity(3))
        pairs = {"bc": Quantity(0, (UP, 1)), "aa": Quantity(0), "cc": Quantity(0, (UP, 1), (UP, -1)), "ba": Quantity(1)}
        swaps = [({"w": (1, 1)}, {"c": "a"}), ({}, {"b": "b"})]
        design = Design([axis_w()], letters, pairs=pairs, swaps=swaps)
        told = forms(design)
        # bc is drawn as ba at 1; cc nowhere has a shift.
        self.assertEqual([thing for thing, _ in told], ["a", "b", "c", "ba", "bc"])
        for thing, paper in told:
            self.same(paper, form(design, thing))
        told.clear()
        self.assertEqual(len(forms(design=design)), 5)

    def test_a_pair_that_has_a_shift_as_another_one_alone(self):
        letters = letters_with(a=Quantity(1), b=Quantity(2), c=Quantity(3))
        design = Design([axis_w()], letters, pairs={"ca": Quantity(4)}, swaps=[({"w": (HALF, HALF)}, {"b": "c"})])
        self.assertEqual([thing for thing, _ in forms(design)], ["a", "b", "c", "ba", "ca"])
        self.assertEqual(value_at(design, "ba", Setting(w=HALF)), Ratio(4))
        # Nowhere is this pair, or another one, drawn as the one with the shift.
        letters = letters_with(a=Quantity(1), b=Quantity(2))
        design = Design([axis_w()], letters, pairs={"ba": Quantity(4)}, swaps=[({}, {"a": "a"}), ({}, {"b": "a", "a": "b"})])
        self.assertEqual([thing for thing, _ in forms(design)], ["a", "b"])

    def test_random_designs(self):
        for seed in range(20):
            design = Maker(seed).design(names=("", "w", "wt")[seed % 3], letters="abc")
            told = dict(forms(design))
            for pair in [one + other for one in "abc" for other in "abc"]:
                paper = form(design, pair)
                self.assertEqual(pair in told, any(any(values) for values in paper[1]))


class AtForms(Case):
    def test_the_value_at_settings(self):
        told = form(jumping_design(), "i")
        self.assertEqual([str(at_form(told, Setting(w=Ratio(number, 4)))[1]) for number in range(5)],
                         ["10", "23/2", "20", "20", "20"])
        self.same(at_form(told=told, setting=Setting(w=0)), ([], Ratio(10)))

    def test_random_designs(self):
        for seed in range(40):
            maker = Maker(seed)
            design = maker.design(names=("", "w", "wt", "xyz")[seed % 4])
            for thing in ("a", "d", "ab", "cd"):
                told = form(design, thing)
                for setting in [maker.setting(design.axes) for _ in range(5)]:
                    self.same(at_form(told, setting), value_at(design, thing, setting))

    def test_new_each_time(self):
        told = form(drawn_design(), "b")
        at_form(told, Setting(w=0))[0].clear()
        at_form(told, Setting(w=0))[0][0].clear()
        self.same(at_form(told, Setting(w=0)), value_at(drawn_design(), "b", Setting(w=0)))

    def test_wrong_settings(self):
        axes = [Axis("v", least=0, home=0, most=1), axis_w()]
        told = form(Design(axes, letters_with(a=Quantity(1))), "a")
        for value in odd_values():
            if not isinstance(value, Setting):
                self.refused(InvalidSetting(None), at_form, told, value)
        self.refused(UnknownAxis("a"), at_form, told, Setting(b=1, a=0, v=0))
        self.refused(InvalidSetting("v"), at_form, told, Setting())
        self.refused(InvalidSetting("v"), at_form, told, Setting(v=2, w=7))
        self.refused(InvalidSetting("w"), at_form, told, Setting(v=1, w=-1))
        self.refused(UnknownAxis("w"), at_form, ([], [[Ratio(1)]]), Setting(w=1))


class Reasons(Case):
    def test_the_example_of_the_document(self):
        self.same(reasons(jumping_design(), "i"), [("w", HALF, "jump", Setting())])
        self.same(reasons(design=jumping_design(), thing="j"), [])

    def test_random_designs(self):
        for seed in range(60):
            design = Maker(seed).design(names=("", "w", "wt", "wt")[seed % 4])
            for thing in ("a", "d", "ab"):
                told = form(design, thing)
                want = [(name, place, jump) for name, own in told[0] for at, (place, jump) in enumerate(own)
                        if jump or 0 < at < len(own) - 1]
                found = reasons(design, thing)
                self.same([(name, place, word == "jump") for name, place, word, _ in found], want)
                for name, place, word, setting in found:
                    self.assertEqual(list(setting), [axis.name for axis in design.axes if axis.name != name])
                    others = {other: fraction(setting[other]) for other in setting}
                    self.assertEqual(turn_by_hand(design, thing, name, fraction(place), others), word)

    def test_a_jump_where_no_corner_belongs_to_the_cell(self):
        # a and b are equal at v 0 and v 1, where besides a swap hides both.
        axes = [Axis("v", least=0, home=0, most=2), axis_w()]
        hill = Reach(v=Tent(0, 1, 2))
        letters = letters_with(a=Quantity(0, (hill, 1)), b=Quantity(0), c=Quantity(9))
        swaps = [({"v": (1, 1)}, {"a": "c"}), ({"w": (HALF, HALF)}, {"a": "b"})]
        design = Design(axes, letters, swaps=swaps)
        self.assertEqual(places(form(design, "a")), {"v": ["0", "1!", "2"], "w": ["0", "1/2!", "1"]})
        found = [reason for reason in reasons(design, "a") if reason[0] == "w"]
        others = {"v": fraction(found[0][3]["v"])}
        self.assertEqual(turn_by_hand(design, "a", "w", fraction(HALF), others), "jump")

    def test_a_jump_at_which_the_values_meet_in_one_place(self):
        # a is as wide as v tells, b 1/3: they are equal at v 1/3, or at v 2/3.
        axes = [Axis("v", least=0, home=0, most=1), axis_w()]
        for meet in (Ratio(1, 3), Ratio(2, 3)):
            letters = letters_with(a=Quantity(0, (Reach(v=Tent(0, 1, 1)), 1)), b=Quantity(meet))
            design = Design(axes, letters, swaps=[({"w": (HALF, 1)}, {"a": "b"})])
            jump = reasons(design, "a")[0]
            self.assertEqual(jump[:3], ("w", HALF, "jump"))
            self.assertEqual(turn_by_hand(design, "a", "w", fraction(HALF), {"v": fraction(jump[3]["v"])}), "jump")
        # The hill of w is taken back at v 1/3.
        hill = Reach(w=Tent(0, HALF, 1))
        rows = [(hill, -1), (Reach(w=Tent(0, HALF, 1), v=Tent(0, 1, 1)), 3)]
        design = Design(axes, letters_with(a=Quantity(0, *rows)))
        bend = reasons(design, "a")[0]
        self.assertEqual(bend[:3], ("w", HALF, "bend"))
        self.assertEqual(turn_by_hand(design, "a", "w", fraction(HALF), {"v": fraction(bend[3]["v"])}), "bend")

    def test_three_axes(self):
        for seed in range(6):
            design = Maker(seed, steps=2).design(names="xyz", letters="ab")
            for thing in ("b", "ab"):
                for name, place, word, setting in reasons(design, thing):
                    self.assertEqual(list(setting), [other for other in "xyz" if other != name])
                    others = {other: fraction(setting[other]) for other in setting}
                    self.assertEqual(turn_by_hand(design, thing, name, fraction(place), others), word)

    def test_new_each_time(self):
        reasons(jumping_design(), "i").clear()
        self.assertEqual(len(reasons(jumping_design(), "i")), 1)
