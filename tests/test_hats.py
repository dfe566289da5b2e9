"""Hats and least places: the points [18] to [20] and the hats module."""

import itertools

from betweenfaces.axes import Axis
from betweenfaces.designs import Design
from betweenfaces.errors import UnknownLetter
from betweenfaces.hats import hats, own_places
from betweenfaces.letters import Letter
from betweenfaces.plain import plain
from betweenfaces.quantities import Quantity
from betweenfaces.ratios import Ratio
from betweenfaces.rows import FullRow, SparseRow
from betweenfaces.tents import Reach, Tent
from tests.drawn import inner_places, spots_at
from tests.examples import HALF
from tests.makers import Maker
from tests.oracle import fraction
from tests.plainly import TINY, turning_places
from tests.values import Case, kind_of, odd_values

BENT = [(0, 0), (1, 2), (4, 4)]
FLAT = [(0, 0), (1, 2), (3, 2), (4, 4)]


def axis_to_4(name="w", home=0, bend=()):
    return Axis(name, least=0, home=home, most=4, bend=bend)


def moved_by(*tents, x=8):
    """A letter of one point that moves by x over each of these tents of the axis w."""
    return Letter(Quantity(1), [(0, 0)], rows=[FullRow(Reach(w=tent), [(x, 0)]) for tent in tents])


def told_of(axes, letter, name="w"):
    return [str(place) for place in own_places(Design(axes, {"a": letter}), "a")[name]]


def own_places_by_hand(design, name):
    """The least places of a letter, found by the slopes of its spots along each axis, close around all turning places."""
    reaches = [row.reach for row in design[name].rows]
    places = {axis.name: turning_places(axis, [reach[axis.name] for reach in reaches if axis.name in reach]) for axis in design.axes}

    def spots(told):
        return [number for spot in spots_at(design[name], inner_places(design, told)) for number in spot]

    found = {}
    for axis in design.axes:
        ends = {fraction(axis.least), fraction(axis.home), fraction(axis.most)}
        others = [other for other in places if other != axis.name]
        grids = [dict(zip(others, chosen)) for chosen in itertools.product(*[places[other] for other in others])]
        found[axis.name] = []
        for place in places[axis.name]:
            near = [[spots({**grid, axis.name: place + step}) for step in (-TINY, 0, TINY)] for grid in grids if place not in ends]
            if place in ends or any(a + c != 2 * b for told in near for a, b, c in zip(*told)):
                found[axis.name].append(place)
    return found


class Hats(Case):
    def test_the_example_of_the_document(self):
        self.same(hats([0, 1, 4], 0), [(Ratio(1), Tent(0, 1, 4)), (Ratio(4), Tent(1, 4, 4))])

    def test_hats_on_both_sides_of_the_home(self):
        self.same(hats(places=[0, 1, Ratio(3), 4], home=Ratio(1)),
                  [(Ratio(0), Tent(0, 0, 1)), (Ratio(3), Tent(1, 3, 4)), (Ratio(4), Tent(3, 4, 4))])
        self.same(hats([0, HALF], HALF), [(Ratio(0), Tent(0, 0, HALF))])
        self.same(hats([-1, 0, 1, 2], 2), [(Ratio(-1), Tent(-1, -1, 0)), (Ratio(0), Tent(-1, 0, 1)), (Ratio(1), Tent(0, 1, 2))])
        places = [0, 1]
        hats(places, 0).clear()
        self.assertEqual((places, len(hats(places, 0))), ([0, 1], 1))

    def test_each_hat_is_1_at_its_place_and_0_at_the_others(self):
        places = [-2, -1, 0, Ratio(1, 3), 5, 6]
        for home in places:
            told_hats = hats(places, home)
            self.assertEqual([place for place, _ in told_hats], [Ratio.of(place) for place in places if place != home])
            for peak, tent in told_hats:
                self.assertTrue(tent.fits(Axis("w", least=-2, home=home, most=6)))
                for place in places:
                    self.assertEqual(tent(place), Ratio(1 if Ratio.of(place) == peak else 0))


class OwnPlaces(Case):
    def test_told_places_without_the_width_and_the_parts_points(self):
        axes = [axis_to_4(bend=BENT), Axis("v", least=0, home=1, most=2)]
        a = Letter(Quantity(0, (Reach(w=Tent(0, 3, 4)), 1)), [(0, 0)], rows=[FullRow(Reach(w=Tent(0, 2, 4)), [(1, 0)])])
        b = Letter(Quantity(0), parts=[("a", 0, 0)], rows=[FullRow(Reach(w=Tent(0, 1, 4)), [(1, 0)])])
        c = Letter(Quantity(0), [(0, 0)], rows=[FullRow(Reach(w=Tent(0, 1, 4)), [(1, 0)]), FullRow(Reach(w=Tent(0, 1, 4)), [(-1, 0)])])
        d = Letter(Quantity(0), [(0, 0)], rows=[SparseRow(Reach(w=Tent(0, 4, 4), v=Tent(0, 0, 1)), {0: (1, 0)})])
        design = Design(axes, {"a": a, "b": b, "c": c, "d": d})
        want = {"a": ["0", "1", "4"], "b": ["0", "1/2", "1", "4"], "c": ["0", "4"], "d": ["0", "1", "4"]}
        for name, places in want.items():
            told_places = own_places(design=design, name=name)
            self.assertEqual([str(place) for place in told_places["w"]], places)
            self.assertEqual([str(place) for place in told_places["v"]], ["0", "1", "2"])
            self.assertEqual(list(told_places), ["v", "w"])
        own_places(design, "a")["w"].clear()
        self.assertEqual(len(own_places(design, "a")["w"]), 3)

    def test_one_axis_has_a_bend_or_both(self):
        letter = Letter(Quantity(0), [(0, 0)], parts=[("b", 1, 1)], rows=[
            FullRow(Reach(w=Tent(0, 4, 4)), [(1, 0), (0, 0)]), FullRow(Reach(v=Tent(0, 1, 4)), [(0, 0), (0, 2)])])
        other = moved_by(Tent(0, 3, 4))
        for bends, want in (({}, ("0 1 4", "0 4")), ({"w": BENT}, ("0 1 4", "0 1 4")), ({"v": BENT}, ("0 1/2 1 4", "0 4")),
                            ({"v": BENT, "w": FLAT}, ("0 1/2 1 4", "0 1 3 4"))):
            axes = [axis_to_4(name, bend=bends.get(name, ())) for name in "vw"]
            told_places = own_places(Design(axes, {"a": letter, "b": other}), "a")
            self.assertEqual(tuple(" ".join(map(str, told_places[name])) for name in "vw"), want)

    def test_offsets_of_parts_and_rows_over_both_axes(self):
        # Only the offset moves, and only where v is not at home.
        both = Reach(w=Tent(0, 2, 4), v=Tent(0, 4, 4))
        letter = Letter(Quantity(0), [(0, 0)], parts=[("b", 1, 1)], rows=[FullRow(both, [(0, 0), (1, 0)])])
        letters = {"a": letter, "b": moved_by(Tent(0, 3, 4))}
        for bend, want in (((), "0 2 4"), (BENT, "0 1 4"), (FLAT, "0 1 3 4")):
            design = Design([axis_to_4(bend=bend), axis_to_4("v", bend=BENT)], letters)
            told_places = own_places(design, "a")
            self.assertEqual((" ".join(map(str, told_places["w"])), " ".join(map(str, told_places["v"]))), (want, "0 1 4"))

    def test_the_home_on_an_end_or_between(self):
        for home, bend, tents, want in (
                (0, (), [Tent(0, 4, 4)], ["0", "4"]), (4, (), [Tent(0, 0, 4)], ["0", "4"]), (2, (), [], ["0", "2", "4"]),
                (2, (), [Tent(0, 0, 2)], ["0", "2", "4"]), (2, (), [Tent(2, 3, 4), Tent(0, 1, 2)], ["0", "1", "2", "3", "4"]),
                (2, [(0, 0), (1, 2), (2, 2), (3, 2), (4, 4)], [Tent(2, 4, 4)], ["0", "2", "3", "4"]),
                (2, [(0, 0), (1, 2), (2, 2), (3, 2), (4, 4)], [Tent(0, 0, 2)], ["0", "1", "2", "4"])):
            self.assertEqual(told_of([axis_to_4(home=home, bend=bend)], moved_by(*tents)), want)

    def test_tents_that_meet_or_take_each_other_back(self):
        axis = [axis_to_4()]
        self.assertEqual(told_of(axis, moved_by(Tent(0, 1, 4), Tent(0, 1, 4))), ["0", "1", "4"])
        # The two together rise straight to the end.
        self.assertEqual(told_of(axis, moved_by(Tent(1, 4, 4), Tent(0, 1, 4))), ["0", "1", "4"])
        straight = Letter(Quantity(1), [(0, 0)], rows=[FullRow(Reach(w=Tent(0, 1, 4)), [(1, 0)]), FullRow(Reach(w=Tent(1, 4, 4)), [(4, 0)])])
        self.assertEqual(told_of(axis, straight), ["0", "4"])
        self.assertEqual(told_of([axis_to_4(bend=BENT)], straight), ["0", "1", "4"])
        # A bend that takes back what the tents turn: told, the point goes straight.
        back = Letter(Quantity(1), [(0, 0)], rows=[FullRow(Reach(w=Tent(0, 2, 4)), [(1, 0)]), FullRow(Reach(w=Tent(2, 4, 4)), [(4, 0)])])
        self.assertEqual(told_of([axis_to_4()], back), ["0", "2", "4"])
        self.assertEqual(told_of([axis_to_4(bend=[(0, 0), (1, 2), (4, 4)])], back), ["0", "4"])

    def test_random_designs_by_looking_at_values_alone(self):
        for seed in range(60):
            design = Maker(seed).design(names=("", "w", "wt", "wt")[seed % 4], rows=3)
            for name in "ad":
                want = own_places_by_hand(design, name)
                found = own_places(design, name)
                self.assertEqual({axis: [fraction(place) for place in found[axis]] for axis in found}, want)
                self.assertEqual(list(found), [axis.name for axis in design.axes])
                # In a design without bends, written otherwise, they are the same.
                self.same(own_places(plain(design), name), found)

    def test_what_is_passed_stays(self):
        design = Maker(3).design()
        ahead = kind_of(design)
        own_places(design, "d")
        self.assertEqual(kind_of(design), ahead)

    def test_wrong_letters(self):
        for value in odd_values():
            if value != "a":
                self.refused(UnknownLetter(value), own_places, Design([], {"a": Letter(Quantity(0))}), value)
        self.same(own_places(Design([], {"a": Letter(Quantity(0))}), "a"), {})
