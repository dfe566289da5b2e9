"""Designs that draw all texts alike, and those that do not: the points [1], [17], [22], the alike and alikecheck modules."""

from betweenfaces.alike import alike
from betweenfaces.alikecheck import check_alike, check_unlike
from betweenfaces.axes import Axis
from betweenfaces.designs import Design
from betweenfaces.errors import NotOneRoom
from betweenfaces.flatten import flattened
from betweenfaces.forms import form, forms
from betweenfaces.gluing import glued
from betweenfaces.letters import Letter
from betweenfaces.plain import plain
from betweenfaces.quantities import Quantity
from betweenfaces.ratios import Ratio
from betweenfaces.rooms import Room
from betweenfaces.rows import FullRow, SparseRow
from betweenfaces.settings import Setting
from betweenfaces.sparse import full, sparse
from betweenfaces.tents import Reach, Tent
from tests.drawn import inner_places, picture_at, told
from tests.examples import HALF, UP, axis_w, drawn_design, jumping_design, nested_design
from tests.makers import Maker
from tests.sampling import settings_of
from tests.test_joining import renamed
from tests.values import Case, kind_of, odd_values

THIRD, NEARLY = Ratio(1, 3), Ratio(1, 10 ** 6)


def letters_with(**widths):
    return {name: Letter(width) for name, width in widths.items()}


def point_letter(*rows, x=0, y=0):
    """A letter of one point, with rows (tent of w, move)."""
    return Letter(Quantity(1), [(x, y)], rows=[FullRow(Reach(w=tent), [move]) for tent, move in rows])


class Alike(Case):
    def are_alike(self, one, other):
        ahead = kind_of((one, other))
        found = alike(one, other)
        self.same(found, ("alike", forms(one)))
        self.same(found[1], forms(other))
        self.same(alike(other, one), found)
        self.assertIs(check_alike(one, other, found[1]), True)
        self.assertIs(check_alike(one=other, other=one, papers=found[1]), True)
        self.assertEqual(kind_of((one, other)), ahead)

    def are_unlike(self, one, other, texts):
        ahead = kind_of((one, other))
        papers = forms(one)
        self.assertNotEqual(papers, forms(other))
        for first, second in ((one, other), (other, one)):
            found = alike(one=first, other=second)
            self.assertIsInstance(found, tuple)
            word, setting, text = found
            self.assertEqual(word, "unlike")
            self.assertIn(text, texts)
            self.assertIs(check_unlike(first, second, setting, text), True)
            places = [picture_at(design, inner_places(design, told(setting)), text) for design in (one, other)]
            self.assertNotEqual(places[0], places[1])
            self.assertIs(check_alike(first, second, forms(first)), False)
            self.assertIs(check_alike(first, second, forms(second)), False)
        self.assertEqual(kind_of((one, other)), ahead)

    def test_the_example_of_the_document(self):
        # x is w in one, 1 - w in the other, and another letter is drawn at both ends.
        swaps = [({"w": (0, 0)}, {"a": "b"}), ({"w": (1, 1)}, {"a": "b"})]
        one = Design([axis_w()], {"a": point_letter((Tent(0, 1, 1), (1, 0))), "b": Letter(Quantity(5))}, swaps=swaps)
        other = Design([axis_w()], {"a": point_letter((Tent(0, 1, 1), (-1, 0)), x=1), "b": Letter(Quantity(5))}, swaps=swaps)
        self.are_unlike(one, other, ["a"])
        self.assertNotIn(str(alike(one, other)[1]), ("w=0", "w=1/2", "w=1"))

    def test_where_they_meet_at_one_place_within_a_cell(self):
        # x is w in one, and as much as the meeting place on its other side in the other one: they meet there, and differ elsewhere.
        for meet in (THIRD, HALF, Ratio(2, 3)):
            one = Design([axis_w()], {"a": point_letter((Tent(0, 1, 1), (1, 0)))})
            other = Design([axis_w()], {"a": point_letter((Tent(0, 1, 1), (-1, 0)), x=meet + meet)})
            self.are_unlike(one, other, ["a"])
            self.assertNotEqual(alike(one, other)[1], Setting(w=meet))
        # Here they meet wherever v or w is 1/3.
        axes, both = [Axis("v", least=0, home=0, most=1), axis_w()], Reach(v=Tent(0, 1, 1), w=Tent(0, 1, 1))
        slopes = [(Reach(v=Tent(0, 1, 1)), -THIRD), (Reach(w=Tent(0, 1, 1)), -THIRD)]
        one = Design(axes, letters_with(a=Quantity(Ratio(1, 9), *slopes, (both, 1))))
        self.are_unlike(one, Design(axes, letters_with(a=Quantity(0))), ["a"])

    def test_written_otherwise(self):
        for seed in range(30):
            maker = Maker(seed)
            design = maker.design(names=("", "w", "wt", "wt")[seed % 4], letters="abc")
            others = [plain(design), flattened(design), sparse(design), full(design), design.changed(), flattened(design, "b")]
            for axis in design.axes:
                others.append(design.cut(Room.of({axis.name: (axis.least, maker.place(axis), axis.most)})))
            for other in others:
                self.assertEqual(alike(design, other), ("alike", forms(design)))
                self.assertIs(check_alike(design, other, forms(other)), True)

    def test_homes_and_bends_may_differ(self):
        bent = Axis("w", least=0, home=0, most=4, bend=[(0, 0), (1, 2), (4, 4)])
        tents = Quantity(10, (Reach(w=Tent(0, 4, 4)), 8))
        other = Quantity(18, (Reach(w=Tent(0, 0, 4)), -8), (Reach(w=Tent(0, 1, 4)), 2))
        self.are_alike(Design([bent], letters_with(a=tents)), Design([Axis("w", least=0, home=4, most=4)], letters_with(a=other)))

    def test_joined_and_left_out_again(self):
        for seed in range(8):
            maker = Maker(seed)
            design = maker.design(names=("w", "wt")[seed % 2], letters="abc")
            more = renamed(Maker(seed + 100).design(names="q", letters="ab"), 10)
            whole = design.joined(more)
            back = whole.without("k", "l").cut(Room(q=whole.axis("q").home))
            self.assertEqual(alike(design, back), ("alike", forms(design)))

    def test_letters_come_first(self):
        one = Design([axis_w()], letters_with(a=Quantity(1), c=Quantity(2), e=Quantity(3)))
        other = Design([axis_w()], letters_with(a=Quantity(9), d=Quantity(2), e=Quantity(3)))
        self.same(alike(one, other), ("letters", "c"))
        self.same(alike(other, one), ("letters", "c"))
        self.same(alike(one, Design([axis_w()], letters_with(a=Quantity(1), c=Quantity(2)))), ("letters", "e"))
        self.same(alike(Design([axis_w()], letters_with(b=Quantity(1))), one), ("letters", "a"))
        self.assertIs(check_alike(one, other, forms(one)), False)

    def test_one_thing_otherwise(self):
        rows = [SparseRow(UP, {0: (1, 0), 2: (2, 3)})]
        rounds = [[(0, 0), (5, 0), (9, 9)], [(1, 1)]]
        a = Letter(Quantity(10, (UP, 4)), *rounds, parts=[("b", 1, 2)], rows=rows)
        letters = {"a": a, "b": Letter(Quantity(7), [(3, 3)]), "c": Letter(Quantity(7))}
        pairs, swaps = {"ab": Quantity(-1), "cc": Quantity(0, (UP, 2))}, [({"w": (HALF, 1)}, {"c": "b"})]
        one = Design([axis_w()], letters, pairs=pairs, swaps=swaps)

        def other(pairs=pairs, swaps=swaps, **letters_too):
            return Design([axis_w()], {**letters, **letters_too}, pairs=pairs, swaps=swaps)

        self.are_alike(one, other())
        width, moved = Quantity(10, (UP, 4)), [[(0, 0), (5, 0), (9, 9)], [(1, Ratio(1) + NEARLY)]]
        for wrong, texts in (
                (other(a=Letter(Quantity(10, (UP, 5)), *rounds, parts=[("b", 1, 2)], rows=rows)), "a"),
                (other(a=Letter(width, *moved, parts=[("b", 1, 2)], rows=rows)), "a"),
                (other(a=Letter(width, *rounds, parts=[("b", 1, Ratio(5, 2))], rows=rows)), "a"),
                (other(a=Letter(width, *rounds, parts=[("c", 1, 2)], rows=rows)), "a"),
                (other(a=Letter(width, *rounds[::-1], parts=[("b", 1, 2)], rows=[SparseRow(UP, {1: (1, 0), 3: (2, 3)})])), "a"),
                (other(a=Letter(width, *rounds, parts=[("b", 1, 2)], rows=[SparseRow(UP, {0: (1, 0)})])), "a"),
                (other(a=Letter(width, *rounds, parts=[("b", 1, 2)])), "a"),
                (other(c=Letter(Quantity(8))), "c"),
                (other(b=Letter(Quantity(8), [(3, 3)])), "bc"),
                (other(pairs={"ab": Quantity(-2), "cc": Quantity(0, (UP, 2))}), ("ab", "ac")),
                (other(pairs={"ab": Quantity(-1)}), ("cc",)),
                (other(pairs={"cc": Quantity(0, (UP, 2))}), ("ab", "ac")),
                (other(pairs={**pairs, "bb": Quantity(1)}), ("bb", "bc", "cb", "cc")),
                (other(swaps=[({"w": (HALF, 1)}, {"c": "a"})]), "c"),
                (other(swaps=[]), "c"),
                (other(swaps=[({}, {"c": "b"})]), "c"),
                (other(swaps=[({"w": (HALF, Ratio(3, 4))}, {"c": "b"})]), "c"),
                (other(swaps=[({"w": (Ratio(1, 4), 1)}, {"c": "b"})]), "c"),
                (other(swaps=[({"w": (HALF, 1)}, {"c": "b", "b": "c"})]), "b"),
                (other(swaps=[({"w": (THIRD, THIRD)}, {"c": "a"}), *swaps]), "c")):
            self.are_unlike(one, wrong, texts)

    def test_swaps_that_are_hidden(self):
        letters = letters_with(a=Quantity(1), b=Quantity(2, (UP, 1)), c=Quantity(3))
        one = Design([axis_w()], letters, swaps=[({"w": (HALF, 1)}, {"a": "b"})])
        for swaps in ([({"w": (HALF, 1)}, {"a": "b"}), ({"w": (Ratio(3, 4), 1)}, {"a": "c"})],
                      [({"w": (HALF, Ratio(3, 4))}, {"a": "b"}), ({"w": (Ratio(3, 4), 1)}, {"a": "b"})],
                      [({"w": (HALF, 1)}, {"a": "b", "b": "b", "c": "c"}), ({"w": (HALF, HALF)}, {"c": "c"})]):
            self.are_alike(one, Design([axis_w()], letters, swaps=swaps))
        # c is as wide as b at w 1: a swap there changes nothing.
        self.are_alike(one, Design([axis_w()], letters, swaps=[({"w": (1, 1)}, {"a": "c"}), ({"w": (HALF, 1)}, {"a": "b"})]))
        self.are_unlike(one, Design([axis_w()], letters, swaps=[({"w": (1, 1)}, {"a": "b"})]), "a")
        # A letter that is nowhere drawn as itself may be whatever it likes, if it is no part.
        hidden = [({}, {"a": "c"})]
        for width in (Quantity(77), Quantity(1, (UP, 9))):
            self.are_alike(Design([axis_w()], letters, swaps=hidden), Design([axis_w()], {**letters, "a": Letter(width, [(4, 4)])}, swaps=hidden))

    def test_at_one_place_of_an_axis(self):
        letters = letters_with(a=Quantity(1), b=Quantity(2))
        one = Design([axis_w()], letters)
        for place in (0, THIRD, 1):
            other = Design([axis_w()], letters, swaps=[({"w": (place, place)}, {"a": "b"})])
            self.are_unlike(one, other, "a")
            self.same(alike(one, other), ("unlike", Setting(w=place), "a"))
        axes = [Axis("v", least=0, home=0, most=1), axis_w()]
        other = Design(axes, letters, swaps=[({"v": (1, 1), "w": (THIRD, THIRD)}, {"a": "b"})])
        self.same(alike(Design(axes, letters), other), ("unlike", Setting(v=1, w=THIRD), "a"))

    def test_shapes_that_differ(self):
        def rounds(*told):
            return Design([axis_w()], {"a": Letter(Quantity(1), *told)})
        point = (0, 0)
        self.are_unlike(rounds([point, point]), rounds([point], [point]), "a")
        self.are_unlike(rounds([point]), rounds(), "a")
        self.are_unlike(rounds([point]), rounds([point, point]), "a")
        # A part of a letter without points is drawn as none.
        self.are_alike(Design([], {"a": Letter(Quantity(1), parts=[("b", 1, 1)]), "b": Letter(Quantity(2))}),
                       Design([], letters_with(a=Quantity(1), b=Quantity(2))))

    def test_where_the_letters_hide_a_pair(self):
        # Widths and a shift that take each other back in the text aa: the letter itself is told.
        one = Design([axis_w()], letters_with(a=Quantity(4)), pairs={"aa": Quantity(2)})
        other = Design([axis_w()], letters_with(a=Quantity(5)))
        self.are_unlike(one, other, "a")

    def test_pairs_that_are_drawn_as_others(self):
        letters = letters_with(a=Quantity(1), b=Quantity(1))
        swaps = [({"w": (HALF, 1)}, {"b": "a"})]
        one = Design([axis_w()], letters, pairs={"ab": Quantity(3)}, swaps=swaps)
        self.are_unlike(one, Design([axis_w()], letters, pairs={"ab": Quantity(3), "ba": Quantity(1)}, swaps=swaps), ("ba",))
        always = [({}, {"b": "a"})]
        one = Design([axis_w()], letters, pairs={"ab": Quantity(3), "aa": Quantity(7)}, swaps=always)
        self.are_alike(one, Design([axis_w()], letters, pairs={"aa": Quantity(7), "bb": Quantity(1)}, swaps=always))

    def test_without_axes(self):
        self.are_alike(Design([], letters_with(a=Quantity(1))), Design([], letters_with(a=Quantity(1))))
        self.are_unlike(Design([], letters_with(a=Quantity(1))), Design([], letters_with(a=Quantity(2))), "a")
        self.same(alike(Design([], letters_with(a=Quantity(1))), Design([], letters_with(a=Quantity(2)))), ("unlike", Setting(), "a"))

    def test_only_within_a_cell_of_two_axes(self):
        # v w in one, v - v w in the other: they meet at v 0 and at w 1/2, and the ends of both axes are hidden.
        axes = [Axis("v", least=0, home=0, most=1), axis_w()]
        both = Reach(v=Tent(0, 1, 1), w=Tent(0, 1, 1))
        one, other = Quantity(0, (both, 1)), Quantity(0, (Reach(v=Tent(0, 1, 1)), 1), (both, -1))
        ends = [({"v": (0, 0)}, {"a": "b"}), ({"v": (1, 1)}, {"a": "b"}), ({"w": (0, 0)}, {"a": "b"}), ({"w": (1, 1)}, {"a": "b"})]
        self.are_unlike(Design(axes, letters_with(a=one, b=Quantity(9)), swaps=ends),
                        Design(axes, letters_with(a=other, b=Quantity(9)), swaps=ends), "a")

    def test_random_pairs_of_designs(self):
        words = {}
        for seed in range(80):
            maker = Maker(seed, steps=2)
            one = maker.design(names=("w", "vw", "", "w")[seed % 4], letters="abc", rows=1)
            letters = {name: one[name] for name in one}
            name = maker.chance.choice("abc")
            kind = maker.chance.choice(("letter", "pair", "swaps", "nothing"))
            if kind == "letter":
                letters[name] = maker.letter(one.axes, "abc"[:"abc".find(name)], 1)
            pairs = {**one.pairs, **({name + "a": maker.quantity(one.axes, 1)} if kind == "pair" else {})}
            swaps = [maker.swap(one.axes, "abc")] + one.swaps if kind == "swaps" else one.swaps
            other = Design(one.axes, letters, pairs=pairs, swaps=swaps)
            found = alike(one, other)
            words[found[0]] = words.get(found[0], 0) + 1
            if found[0] == "unlike":
                self.are_unlike(one, other, [found[2]])
                continue
            self.are_alike(one, other)
            for setting in settings_of(one)[::5]:
                here, there = inner_places(one, setting), inner_places(other, setting)
                for text in ("a", "b", "c", maker.chance.choice("abc") + name):
                    self.assertEqual(picture_at(one, here, text), picture_at(other, there, text))
        self.assertTrue(words["alike"] > 10 and words["unlike"] > 10)

    def test_papers_are_new(self):
        design = drawn_design()
        found = alike(design, design)[1]
        found[0][1][1].clear()
        found.clear()
        self.same(alike(design, design), ("alike", forms(design)))

    def test_not_one_room(self):
        def on(*axes):
            return Design([Axis(name, least=least, home=home, most=most) for name, least, home, most in axes], letters_with(a=Quantity(1)))
        one = on(("v", 0, 0, 1), ("w", 0, 0, 2))
        self.assertEqual(alike(one, on(("w", 0, 2, 2), ("v", 0, 1, 1)))[0], "alike")
        for other in (on(), on(("v", 0, 0, 1)), on(("w", 0, 0, 2)), on(("v", 0, 0, 1), ("x", 0, 0, 2)), on(("v", 0, 0, 1), ("w", 0, 0, 3)),
                      on(("v", 0, 0, 1), ("w", 1, 1, 2)), on(("v", 0, 0, 1), ("w", 0, 0, 2), ("x", 0, 0, 1)), on(("w", 0, 0, 1), ("v", 0, 0, 2))):
            for first, second in ((one, other), (other, one)):
                self.refused(NotOneRoom(), alike, first, second)
                self.refused(NotOneRoom(), check_unlike, first, second, None, "zz")
                self.refused(NotOneRoom(), check_alike, first, second, None)
        # Ahead of letters that only one of them has.
        self.refused(NotOneRoom(), alike, on(), Design([axis_w()], letters_with(b=Quantity(1))))


class CheckUnlike(Case):
    def setUp(self):
        letters = letters_with(a=Quantity(1), b=Quantity(2), c=Quantity(3))
        self.one = Design([axis_w()], letters, pairs={"ab": Quantity(1)})
        letters = letters_with(a=Quantity(1), b=Quantity(2, (UP, 2)), d=Quantity(3))
        self.other = Design([axis_w()], letters)

    def test_right_and_wrong(self):
        for setting, text, want in (
                (Setting(w=1), "b", True), (Setting(w=0), "b", False), (Setting(w=NEARLY), "b", True), (Setting(w=1), "a", False),
                (Setting(w=0), "ab", True), (Setting(w=0), "ba", False), (Setting(w=1), "aaaab", True), (Setting(w=0), "", False),
                (Setting(w=1), "", False), (Setting(w=1), "c", False), (Setting(w=1), "bc", False), (Setting(w=1), "bd", False),
                (Setting(w=1), "b ", False), (Setting(w=2), "b", False), (Setting(w=-1), "b", False), (Setting(), "b", False),
                (Setting(v=1), "b", False), (Setting(v=1, w=1), "b", False), ("w=1", "b", False), ({"w": 1}, "b", False)):
            self.assertIs(check_unlike(self.one, self.other, setting, text), want)
            self.assertIs(check_unlike(one=self.other, other=self.one, setting=setting, text=text), want)

    def test_any_value(self):
        for value in odd_values():
            self.assertIs(check_unlike(self.one, self.other, value, "b"), value == Setting(w=1))
            self.assertIs(check_unlike(self.one, self.other, Setting(w=1), value), value == "ab")

    def test_without_axes(self):
        one, other = Design([], letters_with(a=Quantity(1))), Design([], letters_with(a=Quantity(2)))
        self.assertIs(check_unlike(one, other, Setting(), "a"), True)
        self.assertIs(check_unlike(one, one, Setting(), "a"), False)


class CheckAlike(Case):
    def setUp(self):
        letters = {"a": point_letter((Tent(0, 1, 1), (4, 0))), "b": Letter(Quantity(2)), "c": Letter(Quantity(5))}
        swaps = [({"w": (HALF, 1)}, {"b": "c"})]
        self.one = Design([axis_w()], letters, pairs={"ab": Quantity(1), "cc": Quantity(0)}, swaps=swaps)
        self.other = plain(self.one)
        self.papers = forms(self.one)

    def wrong(self, papers):
        self.assertIs(check_alike(self.one, self.other, papers), False)
        self.assertIs(check_alike(self.other, self.one, papers), False)

    def test_less_more_and_exchanged(self):
        papers = self.papers
        self.assertEqual([thing for thing, _ in papers], ["a", "b", "c", "ab"])
        self.assertIs(check_alike(self.one, self.other, papers), True)
        self.wrong(papers[:-1])
        self.wrong(papers[1:])
        self.wrong(papers[::-1])
        self.wrong([papers[1], papers[0], *papers[2:]])
        self.wrong([papers[3], *papers[:3]])
        self.wrong([*papers, papers[-1]])
        self.wrong([papers[0], *papers])
        self.wrong([*papers, ("ba", form(self.one, "ba"))])
        self.wrong([*papers, ("bb", form(self.one, "bb"))])
        self.wrong([*papers, ("ad", papers[3][1])])
        self.wrong([*papers, ("aab", papers[3][1])])
        self.wrong([*papers, ("", papers[3][1])])
        self.wrong([*papers, (7, papers[3][1])])
        self.wrong([("a", papers[1][1]), ("b", papers[0][1]), *papers[2:]])
        self.wrong([*papers[:3], ("ab", papers[0][1])])
        self.wrong([*papers[:3], ("ac", papers[3][1])])
        self.wrong(tuple(papers))
        self.wrong([list(paper) for paper in papers])
        self.wrong([*papers[:3], ("ab", papers[3][1], 1)])
        self.wrong([])

    def test_one_number_otherwise(self):
        for at in range(4):
            for change in (lambda told: told[1][0].pop(), lambda told: told[1].pop(), lambda told: told[0][0][1].pop(),
                           lambda told: told[1].reverse(), lambda told: told[1].append(told[1][0]),
                           lambda told: told[0].append(told[0][0]), lambda told: told[1][0].__setitem__(0, Ratio(77)),
                           lambda told: told[1][0].__setitem__(0, ([], Ratio(77)))):
                papers = forms(self.one)
                change(papers[at][1])
                if papers[at] != self.papers[at]:
                    self.wrong(papers)

    def test_a_pair_that_is_0_everywhere(self):
        told = form(self.one, "cc")
        self.assertEqual(told[1], [[Ratio(0), Ratio(0)]])
        self.wrong([*self.papers, ("cc", told)])

    def test_other_pairs_must_have_no_shift_in_both(self):
        letters = {name: self.one[name] for name in self.one}
        more = Design([axis_w()], letters, pairs={"ab": Quantity(1), "cb": Quantity(1)}, swaps=self.one.swaps)
        self.assertIs(check_alike(self.one, more, self.papers), False)
        self.assertIs(check_alike(more, self.one, self.papers), False)
        # From w 1/2 on cb is drawn as cc, and has no shift there.
        self.assertEqual([thing for thing, _ in forms(more)], ["a", "b", "c", "ab", "cb"])

    def test_any_value(self):
        for value in odd_values():
            self.wrong(value)
            self.wrong([*self.papers[:3], value])
            self.wrong([*self.papers[:3], ("ab", value)])
            self.wrong([(value, self.papers[0][1]), *self.papers[1:]] if value != "a" else None)

    def test_designs_that_are_not_alike(self):
        letters = {name: self.one[name] for name in self.one}
        for other in (Design([axis_w()], {**letters, "b": Letter(Quantity(3))}, pairs=self.one.pairs, swaps=self.one.swaps),
                      Design([axis_w()], {**letters, "d": Letter(Quantity(3))}, pairs=self.one.pairs, swaps=self.one.swaps)):
            for papers in (forms(self.one), forms(other)):
                self.assertIs(check_alike(self.one, other, papers), False)
                self.assertIs(check_alike(other, self.one, papers), False)

    def test_what_is_passed_stays(self):
        ahead = kind_of((self.one, self.papers))
        check_alike(self.one, self.other, self.papers)
        check_unlike(self.one, self.other, Setting(w=1), "a")
        self.assertEqual(kind_of((self.one, self.papers)), ahead)


class TogetherWithChanges(Case):
    """What follows from the points [17], [21] and [22] together."""

    def test_two_ways_to_one_design(self):
        for seed in range(12):
            maker = Maker(seed)
            design = maker.design(names=("w", "wt")[seed % 2], letters="abc")
            axis = design.axes[0]
            meet = maker.place(axis)
            room = Room.of({axis.name: (axis.least, axis.least, meet)} if axis.least.under(meet) else {axis.name: meet})
            self.same(flattened(design).cut(room), flattened(design.cut(room)))
            self.assertEqual(alike(flattened(design).cut(room), design.cut(room))[0], "alike")
            pins = {axis.name: maker.place(axis) for axis in design.axes}
            one_by_one = design
            for name in reversed(list(pins)):
                one_by_one = one_by_one.cut(Room.of({name: pins[name]}))
            self.same(design.cut(Room.of(pins)), one_by_one)

    def test_four_rooms_glued_again(self):
        for seed in range(12):
            maker = Maker(seed)
            design = plain(maker.design(names="vw", letters="abc", swaps=0))
            meets = {axis.name: (axis.least + axis.most) * HALF for axis in design.axes}
            homes = {axis.name: axis.home if axis.home.under(meets[axis.name]) else axis.least for axis in design.axes}
            v, w = design.axes
            rooms = {}
            for number, (name, axis) in enumerate((("v", v), ("w", w))):
                rooms[name] = [Room.of({name: (axis.least, homes[name], meets[name])}), Room.of({name: (meets[name], axis.most)})]
            below, above = [glued(*[design.cut(one & other) for one in rooms["v"]], "v") for other in rooms["w"]]
            whole = glued(below, above, "w")
            self.same(whole, design.cut(Room.of({name: (axis.least, homes[name], axis.most) for name, axis in (("v", v), ("w", w))})))
            self.assertEqual(alike(whole, design)[0], "alike")

    def test_nested_parts(self):
        design = nested_design()
        self.assertEqual(alike(design, flattened(design))[0], "alike")
        self.assertEqual(alike(design, flattened(sparse(design), "e"))[0], "alike")
        self.assertEqual(alike(jumping_design(), plain(jumping_design()))[0], "alike")
