"""Designs over two rooms side by side: the points [4], [18] to [21] and the gluing module."""

import itertools

from betweenfaces.axes import Axis
from betweenfaces.designs import Design
from betweenfaces.errors import InvalidJoin, UnknownAxis
from betweenfaces.gluing import glued
from betweenfaces.hats import hats
from betweenfaces.letters import Letter
from betweenfaces.plain import plain
from betweenfaces.quantities import Quantity
from betweenfaces.ratios import Ratio, ascending
from betweenfaces.rooms import Room
from betweenfaces.rows import FullRow, SparseRow
from betweenfaces.settings import Setting
from betweenfaces.sparse import sparse
from betweenfaces.tents import Reach, Tent
from tests.drawn import in_ratios, inner_places, picture_at, told
from tests.examples import HALF
from tests.makers import Maker
from tests.sampling import all_reaches
from tests.values import Case, kind_of, odd_values

NEARLY = Ratio(1, 10 ** 6)
TALL = Reach(a=Tent(HALF, 1, 1))


def below(width=Quantity(100), *rounds, **more):
    """A design on a from 0 to 1/2 with one letter y."""
    return design_on([Axis("a", least=0, home=0, most=HALF)], Letter(width, *rounds, **more))


def above(width=Quantity(100), *rounds, home=HALF, **more):
    """A design on a from 1/2 to 1 with one letter y."""
    return design_on([Axis("a", least=HALF, home=home, most=1)], Letter(width, *rounds, **more))


def design_on(axes, y, pairs=None, swaps=(), **letters):
    return Design(axes, {"y": y, **letters}, pairs=pairs, swaps=swaps)


def some_cut(maker, design, with_home=True):
    """Two rooms of an axis side by side, or None, the one that both make, and the name of the axis."""
    axis = maker.chance.choice(design.axes)
    meet, home = maker.place(axis), maker.place(axis)
    if not axis.least.under(meet) or not meet.under(axis.most):
        return None
    home = home if home.under(meet) else meet
    first = (axis.least, home, meet) if with_home else (axis.least, meet)
    return Room.of({axis.name: first}), Room.of({axis.name: (meet, axis.most)}), Room.of({axis.name: (axis.least, home, axis.most)}), axis.name


class Glued(Case):
    def test_the_example_of_the_document(self):
        one, other = below(), above(Quantity(100, (TALL, 8)))
        made = glued(one, other, "a")
        self.same(made, glued(one=one, other=other, axis="a"))
        self.assertEqual([str(axis) for axis in made.axes], ["axis a 0 0 1"])
        self.same(made["y"].width, Quantity(100, (TALL, 8)))
        self.refused(InvalidJoin("a"), glued, one, above(Quantity(101, (TALL, 8))), "a")

    def test_cut_and_glued_is_the_design(self):
        found = 0
        for seed in range(150):
            maker = Maker(seed)
            design = plain(maker.design(names=("w", "wt", "xyz")[seed % 3], letters="abc", swaps=0))
            rooms = some_cut(maker, design)
            if rooms is not None:
                found += 1
                one, other = design.cut(rooms[0]), design.cut(rooms[1])
                ahead = kind_of((one, other))
                self.same(glued(one, other, rooms[3]), design.cut(rooms[2]))
                self.assertEqual(kind_of((one, other)), ahead)
        self.assertTrue(found > 80)

    def test_bends_that_differ_and_rows_that_are_not_plain(self):
        found = 0
        for seed in range(120):
            maker = Maker(seed)
            design = maker.design(names=("w", "wt", "wt")[seed % 3], letters="abc", swaps=0)
            rooms = some_cut(maker, design)
            if rooms is None:
                continue
            found += 1
            # Both halves have bends of their own.
            cut = [plain(design).cut(room) for room in rooms[:2]]
            halves = [Bent(maker, half).made() for half in cut]
            self.same([plain(half) for half in halves], cut)
            made = glued(*halves, rooms[3])
            self.same(plain(made), made)
            self.same(glued(sparse(halves[0]), halves[1], rooms[3]), made)
            self.assertEqual(made.homes, halves[0].homes)
            for half in halves:
                for _ in range(5):
                    setting, text = maker.setting(half.axes), maker.text("abc")
                    self.same(made(setting, text), half(setting, text))
                    self.same(made(setting, text), in_ratios(picture_at(half, inner_places(half, told(setting)), text)))
        self.assertTrue(found > 60)

    def test_homes_that_differ(self):
        # The home of the second one is at its end, that of the other axis at another place.
        v_one, v_other = Axis("v", least=0, home=0, most=4), Axis("v", least=0, home=4, most=4)
        one = Design([Axis("a", least=0, home=0, most=HALF), v_one], {"y": Letter(Quantity(1, (Reach(v=Tent(0, 4, 4)), 8)))})
        other = Quantity(13, (Reach(v=Tent(0, 0, 4)), -8), (Reach(a=Tent(HALF, HALF, 1)), -4))
        made = glued(one, Design([v_other, Axis("a", least=HALF, home=1, most=1)], {"y": Letter(other)}), "a")
        self.assertEqual([str(axis) for axis in made.axes], ["axis a 0 0 1", "axis v 0 0 4"])
        self.same(made["y"].width, Quantity(1, (Reach(v=Tent(0, 4, 4)), 8), (TALL, 4)))

    def test_the_home_where_the_rooms_meet(self):
        one = design_on([Axis("a", least=0, home=HALF, most=HALF)], Letter(Quantity(5, (Reach(a=Tent(0, 0, HALF)), 2))))
        made = glued(one, above(Quantity(5, (TALL, 3))), "a")
        self.assertEqual(made.axes, [Axis("a", least=0, home=HALF, most=1)])
        self.same(made["y"].width, Quantity(5, (Reach(a=Tent(0, 0, HALF)), 2), (TALL, 3)))

    def test_pairs_that_one_of_them_lacks(self):
        y, rise = Letter(Quantity(1)), Quantity(0, (TALL, 8))
        one = design_on([Axis("a", least=0, home=0, most=HALF)], y)
        other = design_on([Axis("a", least=HALF, home=HALF, most=1)], y, pairs={"yy": rise})
        self.same(glued(one, other, "a").pairs, {"yy": rise})
        fall = Quantity(3, (Reach(a=Tent(0, HALF, HALF)), -3))
        one = design_on([Axis("a", least=0, home=0, most=HALF)], y, pairs={"yy": fall})
        other = design_on([Axis("a", least=HALF, home=HALF, most=1)], y)
        self.same(glued(one, other, "a").pairs, {"yy": Quantity(3, (Reach(a=Tent(0, HALF, 1)), -3), (Reach(a=Tent(HALF, 1, 1)), -3))})
        # Shifts that are 0 at all settings are no pairs of the plain design.
        one = design_on([Axis("a", least=0, home=0, most=HALF)], y, pairs={"yy": Quantity(0)})
        self.same(glued(one, other, "a").pairs, {})

    def test_parts(self):
        axes = [Axis("a", least=0, home=0, most=HALF)], [Axis("a", least=HALF, home=HALF, most=1)]
        part = Letter(Quantity(1), parts=[("y", 1, 2)])
        moved = Letter(Quantity(1), parts=[("y", 1, 2)], rows=[FullRow(TALL, [(4, 0)])])
        made = glued(design_on(axes[0], Letter(Quantity(2), [(0, 0)]), z=part), design_on(axes[1], Letter(Quantity(2), [(0, 0)]), z=moved), "a")
        self.same(made["z"], moved)
        self.assertEqual(made(Setting(a=Ratio(3, 4)), "z")[0], [[(Ratio(3), Ratio(2))]])


class Bent:
    """Writes a design without bends and with full rows otherwise: with a bend on each axis, and tents that make up for it."""

    def __init__(self, maker, design):
        self.design = design
        self.axes, self.tents = {}, {}
        reaches = all_reaches(design)
        for axis in design.axes:
            places = [place for reach in reaches if axis.name in reach for place in told_tent(reach[axis.name])]
            ends = ascending([axis.least, axis.home, axis.most])
            at = maker.place(axis)
            knots = [(place, place) for place in ends]
            for low, high in zip(ends, ends[1:]):
                if low.under(at) and at.under(high):
                    knots.insert(ends.index(high), (at, low + (high - low) * Ratio(maker.chance.randint(1, 3), 4)))
            self.axes[axis.name] = bent = Axis(axis.name, least=axis.least, home=axis.home, most=axis.most, bend=knots)
            self.tents[axis.name] = [(place, Tent(*[bent.inner(one) for one in told_tent(tent)]))
                                     for place, tent in hats(ascending([*places, *ends, at]), axis.home)]

    def rows(self, reach):
        """The pairs (reach, factor) of finer rows that together do what a reach does."""
        choices = [[(name, tent, reach[name](place)) for place, tent in self.tents[name]] for name in reach]
        for chosen in itertools.product(*choices):
            factor = Ratio(1)
            for _, _, scalar in chosen:
                factor = factor * scalar
            if factor:
                yield Reach.of({name: tent for name, tent, _ in chosen}), factor

    def quantity(self, old):
        return Quantity(old.home, *[(one, factor * delta) for reach, delta in old.rows for one, factor in self.rows(reach)])

    def letter(self, old):
        rows = [FullRow(one, [(factor * x, factor * y) for x, y in row.moves]) for row in old.rows for one, factor in self.rows(row.reach)]
        return Letter.of(self.quantity(old.width), old.rounds, old.parts, rows)

    def made(self):
        letters = {name: self.letter(self.design[name]) for name in self.design}
        return Design(list(self.axes.values()), letters, pairs={pair: self.quantity(shift) for pair, shift in self.design.pairs.items()})


def told_tent(tent):
    return tent.start, tent.peak, tent.end


class Wrong(Case):
    def test_unknown_axes_come_first(self):
        one, other = below(), Design([Axis("b", least=0, home=0, most=1)], {"x": Letter(Quantity(1))}, swaps=[({}, {"x": "x"})])
        for value in [*odd_values(), "a", "b"]:
            self.refused(UnknownAxis(value), glued, one, other, value)
            if value != "a":
                self.refused(UnknownAxis(value), glued, one, above(), value)
        self.refused(UnknownAxis("a"), glued, Design([], {"y": Letter(Quantity(1))}), above(), "a")

    def test_each_reason(self):
        b = [Axis("b", least=0, home=0, most=4)]
        low, high = [Axis("a", least=0, home=0, most=HALF)], [Axis("a", least=HALF, home=HALF, most=1)]
        letter = Letter(Quantity(3), [(0, 0), (1, 1)], [(2, 2)], parts=[("z", 1, 1), ("x", 0, 0)])
        more = {"x": Letter(Quantity(1)), "z": Letter(Quantity(1))}

        def other(y=letter, axes=high + b, pairs=None, swaps=(), **letters):
            return Design(axes, {"y": y, **more, **letters}, pairs=pairs, swaps=swaps)

        one, rounds = other(axes=low + b), [[(0, 0), (1, 1)], [(2, 2)]]
        self.same(glued(one, other(), "a"), other(axes=[Axis("a", least=0, home=0, most=1)] + b))
        parts, wide = letter.parts, Quantity(3)
        rise = Reach(b=Tent(0, 4, 4))
        for wrong in (
                other(swaps=[({}, {"y": "z"})]), other(swaps=[({}, {"y": "y"})]),
                Design(high + b, {"y": Letter.of(wide, rounds), "x": more["x"]}), other(u=more["x"]),
                other(y=Letter(wide, *rounds[::-1], parts=parts)), other(y=Letter(wide, [(0, 0), (1, 1), (2, 2)], parts=parts)),
                other(y=Letter(wide, rounds[0], parts=parts)), other(y=Letter(wide, [(0, 0)], [(1, 1), (2, 2)], parts=parts)),
                other(y=Letter(wide, *rounds)), other(y=Letter(wide, *rounds, parts=parts[:1])), other(y=Letter(wide, *rounds, parts=parts[::-1])),
                other(y=Letter(wide, *rounds, parts=[("z", 1, 1), ("z", 0, 0)])), other(y=Letter(wide, *rounds, parts=[("z", 1, 1), ("x", 0, NEARLY)])),
                other(y=Letter(Quantity(Ratio(31, 10)), *rounds, parts=parts)), other(y=Letter(wide, [(0, 0), (1, NEARLY)], [(2, 2)], parts=parts)),
                other(pairs={"yy": Quantity(1)}), other(pairs={"xz": Quantity(0, (rise, 1))}), other(y=Letter(Quantity(3, (rise, 1)), *rounds, parts=parts)),
                other(y=Letter(wide, *rounds, parts=parts, rows=[SparseRow(rise, {3: (0, 1)})])),
                other(y=Letter(wide, *rounds, parts=parts, rows=[SparseRow(rise, {2: (0, 1)})])),
                other(axes=[Axis("a", least=Ratio(1, 3), home=1, most=1)] + b), other(axes=[Axis("a", least=Ratio(2, 3), home=1, most=1)] + b),
                other(axes=high), other(axes=high + [Axis("c", least=0, home=0, most=4)]), other(axes=high + [Axis("b", least=0, home=0, most=3)]),
                other(axes=high + [Axis("b", least=1, home=1, most=4)]), other(axes=high + b + [Axis("c", least=0, home=0, most=4)])):
            self.refused(InvalidJoin("a"), glued, one, wrong, "a")
        # The other way round: the room of the second one ends where that of the first one begins.
        self.refused(InvalidJoin("a"), glued, other(), one, "a")
        self.refused(InvalidJoin("b"), glued, one, other(), "b")
        self.refused(InvalidJoin("a"), glued, other(axes=low + b, swaps=[({}, {"y": "y"})]), other(), "a")
        # A swap that does not reach to where the rooms meet, in one of them or in both.
        away = [({"a": (0, Ratio(1, 4))}, {"y": "z"})], [({"a": (Ratio(3, 4), 1)}, {"y": "z"})]
        for here, there in (away, (away[0], []), ([], away[1])):
            self.refused(InvalidJoin("a"), glued, other(axes=low + b, swaps=here), other(swaps=there), "a")
        # Two at once.
        self.refused(InvalidJoin("a"), glued, one, other(axes=high, swaps=[({}, {"y": "z"})], u=more["x"]), "a")

    def test_what_differs_only_away_from_the_meeting_place(self):
        y = Quantity(100, (Reach(a=Tent(0, HALF, HALF)), 8))
        self.refused(InvalidJoin("a"), glued, below(y), above(Quantity(100)), "a")
        made = glued(below(y), above(Quantity(108, (TALL, -8))), "a")
        self.same(made["y"].width, Quantity(100, (Reach(a=Tent(0, HALF, 1)), 8)))

    def test_what_differs_at_one_place_of_another_axis(self):
        b, hill = [Axis("b", least=0, home=0, most=4)], Reach(b=Tent(1, 2, 3))
        one = Design([Axis("a", least=0, home=0, most=HALF)] + b, {"y": Letter(Quantity(1))})
        axes = [Axis("a", least=HALF, home=1, most=1)] + b
        self.refused(InvalidJoin("a"), glued, one, Design(axes, {"y": Letter(Quantity(1, (hill, NEARLY)))}), "a")
        # Behind the meeting place it may.
        there = Reach(a=Tent(HALF, HALF, 1), b=Tent(1, 2, 3))
        made = glued(one, Design(axes, {"y": Letter(Quantity(1, (hill, 5), (there, -5)))}), "a")
        self.same(made["y"].width, Quantity(1, (Reach(a=Tent(HALF, 1, 1), b=Tent(1, 2, 3)), 5)))
