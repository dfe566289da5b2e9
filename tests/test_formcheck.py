"""The checks of forms and reasons: the point [17] and the formcheck module."""

import copy

from betweenfaces.axes import Axis
from betweenfaces.designs import Design
from betweenfaces.errors import UnknownLetter
from betweenfaces.formcheck import check_form, check_reason
from betweenfaces.forms import form, reasons
from betweenfaces.letters import Letter
from betweenfaces.quantities import Quantity
from betweenfaces.ratios import Ratio
from betweenfaces.settings import Setting
from betweenfaces.tents import Reach, Tent
from tests.examples import HALF, axis_w, drawn_design, jumping_design
from tests.makers import Maker
from tests.oracle import fraction
from tests.plainly import turn_by_hand
from tests.values import Case, kind_of, odd_values


def changed_once(value):
    """All values that are the value but for one change of one part."""
    if isinstance(value, bool):
        return [not value, int(value), None]
    if isinstance(value, Ratio):
        return [value + Ratio(1), value + Ratio(1, 1000), value.top if value.bottom == 1 else None, str(value), -value - Ratio(1)]
    if isinstance(value, str):
        return ["", value + value, None, "jump" if value == "bend" else "bend"]
    if isinstance(value, Setting):
        told = [value.moved(name, value[name] + Ratio(50)) for name in value] + [value.without(name) for name in value]
        return told + [value.moved("w", 0), value.moved("other", 0), {}, None, dict(zip(value, value))]
    kind, other = type(value), {list: tuple, tuple: list}[type(value)]
    found = [other(value), kind([*value, *value[:1]]), kind(value[:-1]), None] if value else [other(), None]
    for at, part in enumerate(value):
        found += [kind([*value[:at], new, *value[at + 1:]]) for new in changed_once(part)]
    return found


class CheckForm(Case):
    def told(self, design, thing, value):
        """What check_form tells, a bool; the value stays."""
        ahead = kind_of(value)
        told = check_form(design, thing, value)
        self.assertIsInstance(told, bool)
        self.assertEqual(kind_of(value), ahead)
        return told

    def test_the_form_passes_and_no_other_value(self):
        for design, things in ((jumping_design(), ("i", "j", "ij")), (drawn_design(), ("a", "b", "ab", "bb"))):
            for thing in things:
                right = form(design, thing)
                self.assertIs(self.told(design, thing, right), True)
                self.assertIs(check_form(design=design, thing=thing, told=copy.deepcopy(right)), True)
                for value in changed_once(right):
                    if kind_of(value) != kind_of(right):
                        self.assertIs(self.told(design, thing, value), False, kind_of(value))
                for value in odd_values():
                    self.assertIs(self.told(design, thing, value), False)

    def test_random_designs(self):
        for seed in range(25):
            maker = Maker(seed, steps=3)
            design = maker.design(names=("", "w", "wt")[seed % 3], letters="abc")
            for thing in ("a", "c", "ab"):
                right = form(design, thing)
                self.assertIs(check_form(design, thing, right), True)
                wrong = changed_once(right)
                for value in maker.chance.sample(wrong, min(40, len(wrong))):
                    self.assertIs(self.told(design, thing, value), kind_of(value) == kind_of(right), kind_of(value))

    def test_three_axes(self):
        design = Maker(5, steps=2).design(names="xyz", letters="abc")
        for thing in ("b", "c", "bc"):
            right = form(design, thing)
            self.assertIs(check_form(design, thing, right), True)
            right[1][-1][-1] = right[1][0][0] if right[1][-1][-1] != right[1][0][0] else None
            self.assertIs(check_form(design, thing, right), False)

    def test_a_place_that_nothing_needs(self):
        axis = Axis("w", least=0, home=1, most=2, bend=[(0, 0), (1, 1), (2, 2)])
        design = Design([axis], {"a": Letter(Quantity(5))})
        table = [[([], Ratio(5)), ([], Ratio(5))], [([], Ratio(5)), ([], Ratio(5))]]
        self.assertIs(check_form(design, "a", ([("w", [(Ratio(0), False), (Ratio(2), False)])], table[:1])), True)
        more = [(Ratio(0), False), (Ratio(1), False), (Ratio(2), False)]
        self.assertIs(check_form(design, "a", ([("w", more)], table)), False)
        # Not a raw place: the form of the other design does not fit, either.
        more = [(Ratio(0), False), (HALF, False), (Ratio(2), False)]
        self.assertIs(check_form(design, "a", ([("w", more)], table)), False)

    def test_a_jump_that_nothing_needs_or_that_is_no_mark(self):
        letters = {"a": Letter(Quantity(5)), "b": Letter(Quantity(5)), "c": Letter(Quantity(5, (Reach(w=Tent(0, HALF, 1)), 2)))}
        design = Design([axis_w()], letters, swaps=[({"w": (HALF, 1)}, {"a": "b"})])
        five = ([], Ratio(5))
        told = ([("w", [(Ratio(0), False), (HALF, True), (Ratio(1), False)])], [[five, five], [five], [five, five]])
        self.assertIs(check_form(design, "a", told), False)
        told = form(design, "c")
        places, table = told[0][0][1], told[1]
        places[1] = (HALF, True)
        table.insert(1, [table[0][1]])
        self.assertIs(check_form(design, "c", told), False)

    def test_a_jump_that_is_told_as_no_jump(self):
        told = form(jumping_design(), "i")
        told[0][0][1][1] = (HALF, False)
        del told[1][1]
        self.assertIs(check_form(jumping_design(), "i", told), False)
        # A jump at the least place alone: the swap hides the letter there.
        letters = {"a": Letter(Quantity(5)), "b": Letter(Quantity(6))}
        design = Design([axis_w()], letters, swaps=[({"w": (0, 0)}, {"a": "b"})])
        five = ([], Ratio(5))
        self.assertIs(check_form(design, "a", ([("w", [(Ratio(0), False), (Ratio(1), False)])], [[five, five]])), False)
        # And one at a single place between.
        design = Design([axis_w()], letters, swaps=[({"w": (HALF, HALF)}, {"a": "b"})])
        self.assertIs(check_form(design, "a", ([("w", [(Ratio(0), False), (Ratio(1), False)])], [[five, five]])), False)

    def test_a_jump_at_a_single_place(self):
        letters = {"a": Letter(Quantity(5)), "b": Letter(Quantity(6))}
        design = Design([axis_w()], letters, swaps=[({"w": (HALF, HALF)}, {"a": "b"})])
        five, six = ([], Ratio(5)), ([], Ratio(6))
        told = ([("w", [(Ratio(0), False), (HALF, True), (Ratio(1), False)])], [[five, five], [six], [five, five]])
        self.same(form(design, "a"), told)
        self.assertIs(check_form(design, "a", told), True)

    def test_places_that_lack(self):
        design = Design([axis_w()], {"c": Letter(Quantity(5, (Reach(w=Tent(0, HALF, 1)), 2)))})
        zero, five, seven = Ratio(0), ([], Ratio(5)), ([], Ratio(7))
        self.assertIs(check_form(design, "c", ([("w", [(zero, False), (HALF, False), (Ratio(1), False)])],
                                               [[five, seven], [seven, five]])), True)
        for places, table in (([], []), ([(zero, False), (HALF, False)], [[five, seven]]), ([(zero, False)], []),
                              ([(HALF, False), (Ratio(1), False)], [[seven, five]]), ([], [[five]]),
                              ([(Ratio(1), False), (zero, False)], [[five, five]]), ([(zero, False), (zero, False)], [[five, five]])):
            self.assertIs(check_form(design, "c", ([("w", places)], table)), False)

    def test_a_bend_that_is_left_out(self):
        letters = {"c": Letter(Quantity(5, (Reach(w=Tent(0, HALF, 1)), 2)))}
        design = Design([axis_w()], letters)
        five = ([], Ratio(5))
        self.assertIs(check_form(design, "c", ([("w", [(Ratio(0), False), (Ratio(1), False)])], [[five, five]])), False)
        self.assertIs(check_form(design, "c", form(design, "c")), True)

    def test_without_axes(self):
        design = Design([], {"a": Letter(Quantity(5), [(0, 0)])}, pairs={"aa": Quantity(1)})
        self.assertIs(check_form(design, "aa", ([], [[Ratio(1)]])), True)
        for value in (([], [[1]]), ([], [[Ratio(2)]]), ([], []), ([], [[]]), ([("w", [])], [[Ratio(1)]]), ((), [[Ratio(1)]]),
                      ([], [[Ratio(1), Ratio(1)]]), ([], [[Ratio(1)], [Ratio(1)]]), ([], [(Ratio(1),)])):
            self.assertIs(check_form(design, "aa", value), False)
        point = (Ratio(0), Ratio(0))
        self.assertIs(check_form(design, "a", ([], [[([[point]], Ratio(5))]])), True)
        for value in (([[point], []], Ratio(5)), ([[point, point]], Ratio(5)), ([(point,)], Ratio(5)), ([[(0, 0)]], Ratio(5)),
                      ([[point]], 5), Ratio(5), ([[point]], Ratio(5), Ratio(5)), [[[point]], Ratio(5)], ([point], Ratio(5)),
                      ([[[Ratio(0), Ratio(0)]]], Ratio(5)), ([[(Ratio(0),)]], Ratio(5))):
            self.assertIs(check_form(design, "a", ([], [[value]])), False)

    def test_the_form_of_another_thing_or_axis(self):
        design = drawn_design()
        self.assertIs(check_form(design, "a", form(design, "b")), False)
        self.assertIs(check_form(design, "ab", form(design, "a")), False)
        self.assertIs(check_form(design, "a", form(design, "ab")), False)
        axis = Axis("v", least=0, home=0, most=1)
        other = Design([axis], {"a": Letter(Quantity(10), [(0, 0), (8, 0)])})
        self.assertIs(check_form(design, "a", form(other, "a")), False)

    def test_wrong_things(self):
        for value in odd_values():
            if value not in ("a", "ab"):
                self.refused(UnknownLetter(value), check_form, drawn_design(), value, None)
                self.refused(UnknownLetter(value), check_reason, drawn_design(), value, None)


class CheckReason(Case):
    def told(self, design, thing, value):
        ahead = kind_of(value)
        told = check_reason(design, thing, value)
        self.assertIsInstance(told, bool)
        self.assertEqual(kind_of(value), ahead)
        return told

    def test_the_reasons_pass(self):
        for seed in range(40):
            design = Maker(seed).design(names=("", "w", "wt", "wt")[seed % 4])
            for thing in ("a", "d", "ab"):
                for reason in reasons(design, thing):
                    self.assertIs(self.told(design, thing, reason), True)
                    for value in changed_once(reason):
                        self.assertIs(self.told(design, thing, value), self.by_hand(design, thing, value), kind_of(value))

    def by_hand(self, design, thing, value):
        """Whether a value is a reason, by looking at values alone."""
        if not isinstance(value, tuple) or len(value) != 4 or not isinstance(value[3], Setting):
            return False
        name, place, word, setting = value
        names = [axis.name for axis in design.axes]
        if name not in names or list(setting) != [other for other in names if other != name]:
            return False
        if not isinstance(place, Ratio) or not design.axis(name).holds(place):
            return False
        if not all(design.axis(other).holds(setting[other]) for other in setting):
            return False
        others = {other: fraction(setting[other]) for other in setting}
        turn = turn_by_hand(design, thing, name, fraction(place), others)
        jumps = [at for axis, places in form(design, thing)[0] if axis == name for at, jump in places if jump]
        return word == turn and word != "" and not (word == "bend" and place in jumps)

    def test_other_settings_may_be_reasons_too(self):
        axes = [Axis("v", least=0, home=0, most=1), axis_w()]
        hill = Reach(w=Tent(0, HALF, 1), v=Tent(0, 1, 1))
        design = Design(axes, {"a": Letter(Quantity(0, (hill, 1)))})
        for place, want in ((0, False), (Ratio(1, 7), True), (HALF, True), (1, True)):
            self.assertIs(self.told(design, "a", ("w", HALF, "bend", Setting(v=place))), want)
            self.assertIs(self.told(design, "a", ("w", HALF, "jump", Setting(v=place))), False)

    def test_a_jump_is_no_bend(self):
        # At w 1/2 the letter jumps for v 1 alone; elsewhere it only bends there.
        axes = [Axis("v", least=0, home=0, most=1), axis_w()]
        letters = {"a": Letter(Quantity(0, (Reach(w=Tent(0, HALF, 1)), 1))), "b": Letter(Quantity(7))}
        design = Design(axes, letters, swaps=[({"v": (1, 1), "w": (HALF, HALF)}, {"a": "b"})])
        self.assertIs(self.told(design, "a", ("w", HALF, "jump", Setting(v=1))), True)
        self.assertIs(self.told(design, "a", ("w", HALF, "jump", Setting(v=HALF))), False)
        self.assertIs(self.told(design, "a", ("w", HALF, "bend", Setting(v=HALF))), False)
        self.assertIs(self.told(design, "a", ("v", Ratio(1), "jump", Setting(w=HALF))), True)

    def test_wrong_values(self):
        design = jumping_design()
        self.assertIs(check_reason(design=design, thing="i", told=("w", HALF, "jump", Setting())), True)
        for value in odd_values():
            self.assertIs(self.told(design, "i", value), False)
            for told in ((value, HALF, "jump", Setting()), ("w", value, "jump", Setting()), ("w", HALF, value, Setting()),
                         ("w", HALF, "jump", value)):
                right = kind_of(told) == kind_of(("w", HALF, "jump", Setting()))
                self.assertIs(self.told(design, "i", told), right, kind_of(told))
        for told in (("w", Ratio(0), "jump", Setting()), ("w", Ratio(1), "bend", Setting()), ("w", Ratio(1, 3), "bend", Setting()),
                     ("w", Ratio(7), "jump", Setting()), ("w", HALF, "", Setting()), ("w", Ratio(0), "", Setting()),
                     ("w", HALF, "jump", Setting(w=HALF))):
            self.assertIs(self.told(design, "i", told), False)

    def test_a_bend_beyond_the_ends(self):
        third = Ratio(1, 3)
        for tent in (Tent(0, 1, 1), Tent(0, third, 1), Tent(0, third, HALF)):
            design = Design([axis_w()], {"a": Letter(Quantity(0, (Reach(w=tent), 1)))})
            for place in (Ratio(0), Ratio(1), Ratio(2, 3), Ratio(2), Ratio(-1)):
                for word in ("bend", "jump"):
                    self.assertIs(self.told(design, "a", ("w", place, word, Setting())), False)

    def test_an_axis_that_the_design_lacks(self):
        for name in ("x", "", None, 1, ("w",)):
            for setting in (Setting(w=HALF), Setting(), Setting(x=HALF)):
                self.assertIs(self.told(jumping_design(), "i", (name, HALF, "jump", setting)), False)
