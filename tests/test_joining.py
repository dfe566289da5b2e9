"""Designs with the letters of two: the points [3], [12], [21] and the joining module."""

from betweenfaces.axes import Axis
from betweenfaces.designs import Design
from betweenfaces.errors import InvalidJoin
from betweenfaces.joining import joined
from betweenfaces.letters import Letter
from betweenfaces.plain import plain
from betweenfaces.quantities import Quantity
from betweenfaces.ratios import Ratio
from betweenfaces.settings import Setting
from betweenfaces.tents import Reach, Tent
from tests.makers import Maker
from tests.values import Case, kind_of


def renamed(design, by):
    """A design with other letters: those so many places behind its own."""
    def new(name):
        return chr(ord(name) + by)
    letters = {new(name): Letter.of(design[name].width, design[name].rounds, [(new(part), x, y) for part, x, y in design[name].parts],
                                    design[name].rows) for name in design}
    pairs = {new(pair[0]) + new(pair[1]): shift for pair, shift in design.pairs.items()}
    swaps = [(box, {new(name): new(to) for name, to in table.items()}) for box, table in design.swaps]
    return Design(design.axes, letters, pairs=pairs, swaps=swaps)


def on_axes(names, letter, home=0):
    axes = [Axis(name, least=0, home=home, most=4) for name in names]
    return Design(axes, {letter: Letter(Quantity(1))})


class Joined(Case):
    def test_axes_homes_letters_pairs_and_swaps_of_both(self):
        w, v = Axis("w", least=0, home=0, most=4, bend=[(0, 0), (1, 2), (4, 4)]), Axis("v", least=0, home=1, most=2)
        w_too, x = Axis("w", least=0, home=4, most=4), Axis("x", least=0, home=3, most=3)
        a = Letter(Quantity(1, (Reach(w=Tent(0, 4, 4)), 4)))
        one = Design([w, v], {"a": a}, pairs={"aa": Quantity(2)}, swaps=[({"w": (0, 2)}, {"a": "a"})])
        b = Letter(Quantity(5, (Reach(w=Tent(0, 0, 4)), 4), (Reach(x=Tent(0, 0, 3)), 1)))
        other = Design([x, w_too], {"b": b}, pairs={"bb": Quantity(0)},
                       swaps=[({"x": (3, 3)}, {"b": "b"}), ({}, {"b": "b"})])
        made = joined(one, other)
        self.assertEqual([str(axis) for axis in made.axes], ["axis v 0 1 2", "axis w 0 0 4", "axis x 0 3 3"])
        self.assertEqual((made.names, made.pairs), (["a", "b"], {"aa": Quantity(2)}))
        self.assertEqual(made.swaps, [({"w": (Ratio(0), Ratio(1))}, {"a": "a"}), ({"x": (Ratio(3), Ratio(3))}, {"b": "b"}), ({}, {"b": "b"})])
        # At the home of w in the first design b is 9 wide.
        self.assertEqual((made["b"].width.home, made["b"].width.rows),
                         (Ratio(9), ((Reach(x=Tent(0, 0, 3)), Ratio(1)), (Reach(w=Tent(0, 4, 4)), Ratio(-4)))))
        self.same(joined(one=one, other=other), made)
        self.same(one.joined(other), made)
        self.assertEqual(other.joined(one).homes, Setting(v=1, w=4, x=3))

    def test_random_designs(self):
        for seed in range(60):
            maker = Maker(seed)
            one = maker.design(names=("", "w", "wt", "w")[seed % 4], letters="abc")
            other = renamed(maker.design(names=("w", "", "wx", "t")[seed % 4], letters="abc"), 3)
            ends = {axis.name: axis for axis in one.axes}
            if any(axis.name in ends and axis.least != ends[axis.name].least for axis in other.axes):
                self.refused(InvalidJoin("w"), joined, one, other)
                continue
            ahead = kind_of((one, other))
            for made in (joined(one, other), other.joined(one)):
                self.assertEqual(kind_of((one, other)), ahead)
                self.same(plain(made), made)
                self.assertEqual(made.names, list("abcdef"))
                for _ in range(4):
                    setting = maker.setting(made.axes)
                    for design, letters in ((one, "abc"), (other, "def")):
                        here, text = Setting.of({axis.name: setting[axis.name] for axis in design.axes}), maker.text(letters)
                        self.same(made(setting, text), design(here, text))
            self.same(plain(one).joined(plain(other)), one.joined(other))

    def test_letters_of_both_side_by_side(self):
        one = Design([], {"a": Letter(Quantity(1), [(0, 0)])}, pairs={"aa": Quantity(9)})
        other = Design([], {"b": Letter(Quantity(2), [(0, 0)])})
        self.assertEqual(str(one.joined(other)(Setting(), "aabb")[1]), "15")


class Wrong(Case):
    def test_axes_with_other_ends_come_first(self):
        one = on_axes(["u", "v", "w"], "a")
        for least, most, names, name in ((0, 5, "vw", "v"), (-1, 4, "w", "w"), (0, Ratio(7, 2), "wxv", "v"), (1, 4, "tuw", "u")):
            axes = [Axis(axis, least=least, home=most, most=most) for axis in names]
            for letter in "ab":
                other = Design(axes, {letter: Letter(Quantity(1))})
                self.refused(InvalidJoin(name), joined, one, other)
                self.refused(InvalidJoin(name), other.joined, one)

    def test_then_the_least_letter_of_both(self):
        letters = {name: Letter(Quantity(1)) for name in "zbmc"}
        one = Design([], letters)
        other = Design([Axis("w", least=0, home=0, most=1)], {name: Letter(Quantity(1)) for name in "zmay"})
        self.refused(InvalidJoin("m"), one.joined, other)
        self.refused(InvalidJoin("m"), joined, other, one)
        self.refused(InvalidJoin("a"), on_axes("w", "a").joined, on_axes("w", "a", home=4))
