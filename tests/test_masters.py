"""Designs made of masters: the points [6], [7], [8] and the masters module."""

import itertools
from fractions import Fraction

from betweenfaces.alike import alike
from betweenfaces.axes import Axis
from betweenfaces.designs import Design
from betweenfaces.errors import InvalidDesign, InvalidMasters
from betweenfaces.letters import Letter
from betweenfaces.masters import from_masters, masters_of
from betweenfaces.quantities import Quantity
from betweenfaces.ratios import Ratio
from betweenfaces.rows import FullRow, SparseRow
from betweenfaces.settings import Setting
from betweenfaces.tents import Reach, Tent
from tests.drawn import inner_places, told
from tests.examples import HALF, drawn_design, flattening_design
from tests.makers import Maker
from tests.oracle import fraction, ratio
from tests.values import Case, kind_of, odd_values


def axis_on(name="w", least=0, home=0, most=4, bend=()):
    return Axis(name, least=least, home=home, most=most, bend=bend)


def widths(*told_widths, **axes):
    """Masters of a letter a without rounds: pairs of places, by the order of the names of axes, and a width."""
    names = sorted(axes) if axes else ["w"]
    return [(Setting.of(dict(zip(names, places if isinstance(places, tuple) else (places,)))), {"a": (width, [])})
            for places, width in told_widths]


def hat(masters, axis, name, peak, place):
    """The hat of a master place at a place, as the document tells it."""
    home = fraction(axis.home)
    places = sorted({home, *[fraction(setting[name]) for setting, _ in masters]})
    if place <= places[0]:
        return Fraction(peak == places[0] and peak != home)
    if place >= places[-1]:
        return Fraction(peak == places[-1] and peak != home)
    for low, high in zip(places, places[1:]):
        if low <= place <= high:
            share = (place - low) / (high - low)
            return share if peak == high else 1 - share if peak == low else Fraction(0)


def numbers_of(letters):
    told_numbers = []
    for name in sorted(letters):
        width, rounds = letters[name]
        told_numbers += [fraction(width), *[fraction(number) for points in rounds for point in points for number in point]]
    return told_numbers


def by_hand(axes, masters, inner):
    """The numbers at inner places, by gains as the document tells them."""
    axes = sorted(axes, key=lambda axis: axis.name)
    homes = {axis.name: fraction(axis.home) for axis in axes}
    drawn = [(told(setting), numbers_of(letters)) for setting, letters in masters]
    home = [numbers for places, numbers in drawn if places == homes][0]
    gains = []
    for places, numbers in sorted(drawn, key=lambda one: sum(one[0][name] != homes[name] for name in homes)):
        if places != homes:
            lesser = [gain for other, gain in gains if all(other[name] in (places[name], homes[name]) for name in homes)]
            gains.append((places, [number - base - sum(gain[at] for gain in lesser)
                                   for at, (number, base) in enumerate(zip(numbers, home))]))
    total = list(home)
    for places, gain in gains:
        scalar = Fraction(1)
        for axis in axes:
            if places[axis.name] != homes[axis.name]:
                scalar *= hat(masters, axis, axis.name, places[axis.name], inner[axis.name])
        total = [number + scalar * more for number, more in zip(total, gain)]
    return total


def drawing(letter, inner):
    """The numbers of a design's letter at inner places."""
    setting = Setting.of({name: ratio(place) for name, place in inner.items()})
    spots = letter.moved(setting)
    return [letter.width.at(setting), *[number for spot in spots for number in spot]]


def some_masters(maker, axes, shapes):
    """Masters at some corners of some places, one of them at the home."""
    grids = []
    for axis in axes:
        least, most = int(str(axis.least)), int(str(axis.most))
        grids.append(sorted({int(str(axis.home)), *[maker.chance.randint(least, most) for _ in range(maker.chance.randint(0, 2))]}))
    masters = []
    for corner in itertools.product(*grids):
        places = {axis.name: place for axis, place in zip(axes, corner)}
        if all(places[axis.name] == int(str(axis.home)) for axis in axes) or maker.chance.random() < 0.7:
            letters = {name: (maker.number(), [[(maker.number(), maker.number()) for _ in range(many)] for many in shape])
                       for name, shape in shapes.items()}
            masters.append((Setting.of(places), letters))
    maker.chance.shuffle(masters)
    return masters


class FromMasters(Case):
    def test_the_first_example_of_the_document(self):
        design = from_masters([axis_on()], widths((0, 10), (1, 14)))
        self.assertEqual([str(design(Setting(w=Ratio(at, 2)), "a")[1]) for at in range(9)], ["10", "12", *["14"] * 7])
        design = from_masters([axis_on()], widths((0, 10), (3, 20), (1, 14)))
        self.assertEqual([str(design(Setting(w=at), "a")[1]) for at in range(5)], ["10", "14", "17", "20", "20"])

    def test_the_second_example_of_the_document(self):
        axes = [axis_on("v", most=1), axis_on("w", most=1)]
        masters = widths(((0, 0), 10), ((1, 0), 12), ((1, 1), 20), v=0, w=0)
        design = from_masters(axes=axes, masters=masters)
        self.assertEqual([str(design(Setting(v=v, w=w), "a")[1]) for v, w in ((0, 0), (1, 0), (1, 1), (0, 1), (1, HALF), (HALF, HALF))],
                         ["10", "12", "20", "10", "16", "13"])

    def test_no_axis(self):
        design = from_masters([], [(Setting(), {"b": (Ratio(7, 2), [[(1, 2)]]), "a": (3, ([(0, 0)], ((1, 1), (2, 2))))})])
        self.assertEqual(design, Design([], {"a": Letter(Quantity(3), [(0, 0)], [(1, 1), (2, 2)]), "b": Letter(Quantity(Ratio(7, 2)), [(1, 2)])}))

    def test_the_home_alone(self):
        design = from_masters((axis_on(home=2),), widths((2, 5)))
        self.assertEqual([str(design(Setting(w=at), "a")[1]) for at in range(5)], ["5"] * 5)
        self.assertEqual((design.names, design.pairs, design.swaps, design.axes), (["a"], {}, [], [axis_on(home=2)]))

    def test_places_on_both_sides_and_at_the_ends(self):
        for masters, want in ((widths((2, 10), (0, 4)), [4, 7, 10, 10, 10]), (widths((2, 10), (4, 4)), [10, 10, 10, 7, 4]),
                              (widths((2, 10), (1, 4)), [4, 4, 10, 10, 10]), (widths((2, 10), (1, 4), (3, 8)), [4, 4, 10, 8, 8]),
                              (widths((1, 4), (0, 1), (2, 10), (4, 0), (3, 8)), [1, 4, 10, 8, 0])):
            design = from_masters([axis_on(home=2)], masters)
            self.assertEqual([str(design(Setting(w=at), "a")[1]) for at in range(5)], [str(width) for width in want])

    def test_places_stand_behind_the_bends(self):
        axis = axis_on(bend=[(0, 0), (1, 2), (3, 2), (4, 4)])
        design = from_masters([axis], widths((0, 10), (2, 14), (4, 10)))
        self.assertEqual(design.axes, [axis])
        self.assertEqual([str(design(Setting(w=at), "a")[1]) for at in (0, HALF, 1, 2, 3, 4)], ["10", "12", "14", "14", "14", "10"])

    def test_random_masters(self):
        for seed in range(80):
            maker = Maker(seed)
            axes = [maker.axis(name) for name in ("", "w", "vw", "xyz")[seed % 4]]
            shapes = {"a": [2, 1], "b": [], "c": [3]}
            masters = some_masters(maker, axes, shapes)
            ahead = kind_of((axes, masters))
            design = from_masters(axes[::-1], masters)
            self.assertEqual(kind_of((axes, masters)), ahead)
            self.assertEqual(design.axes, sorted(axes, key=lambda axis: axis.name))
            self.assertTrue(all(not design[name].parts for name in "abc"))
            for _ in range(4):
                inner = inner_places(design, told(maker.setting(axes)))
                want = by_hand(axes, masters, inner)
                self.same([number for name in "abc" for number in drawing(design[name], inner)], [ratio(number) for number in want])
            # Each master is drawn at its own places.
            for setting, letters in masters:
                found = [number for name in "abc" for number in drawing(design[name], told(setting))]
                self.same(found, [ratio(number) for number in numbers_of(letters)])

    def test_what_is_passed_can_be_changed_later(self):
        points, masters = [(0, 0)], widths((0, 10))
        masters[0][1]["a"] = (10, [points])
        design = from_masters([axis_on()], masters)
        points[0] = (5, 5)
        masters.clear()
        self.same(design(Setting(w=0), "a"), ([[(Ratio(0), Ratio(0))]], Ratio(10)))


class WrongMasters(Case):
    def test_axes_come_first(self):
        for value in [*odd_values(), [axis_on(), axis_on(most=5)], [axis_on(), None]]:
            right = isinstance(value, (list, tuple)) and all(isinstance(axis, Axis) for axis in value)
            if not right or len(value) == 2:
                self.refused(InvalidDesign("axes"), from_masters, value, None)
                self.refused(InvalidDesign("axes"), from_masters, axes=value, masters=[1])

    def test_any_value(self):
        for value in odd_values():
            if not isinstance(value, list):
                self.refused(InvalidMasters(0), from_masters, [axis_on()], value)
            self.refused(InvalidMasters(0), from_masters, [axis_on()], [value])
            self.refused(InvalidMasters(1), from_masters, [axis_on()], widths((0, 1)) + [value])
            if not isinstance(value, dict) or not value:
                self.refused(InvalidMasters(0), from_masters, [axis_on()], [(Setting(w=0), value)])
            self.refused(InvalidMasters(0), from_masters, [axis_on()], [(Setting(w=0), {"a": value})])
            if not isinstance(value, str) or len(value) != 1 or not value.islower():
                if isinstance(value, (str, int, type(None))):
                    self.refused(InvalidMasters(0), from_masters, [axis_on()], [(Setting(w=0), {value: (1, [])})])
            self.refused(InvalidMasters(0), from_masters, [axis_on()], [(value, {"a": (1, [])})] if value != Setting(w=1) else None)
            if not isinstance(value, (list, tuple)) or (value and not all(isinstance(points, list) for points in value)):
                self.refused(InvalidMasters(0), from_masters, [axis_on()], [(Setting(w=0), {"a": (1, value)})])
        self.refused(InvalidMasters(0), from_masters, [axis_on()], tuple(widths((0, 1))))
        self.refused(InvalidMasters(0), from_masters, [axis_on()], [])
        self.refused(InvalidMasters(0), from_masters, [], [])

    def test_each_thing_that_can_be_wrong(self):
        rounds = [[(0, 0), (1, 1)], [(2, 2)]]
        first, second = (Setting(w=1), {"a": (1, rounds), "b": (2, [])}), (Setting(w=0), {"a": (3, rounds), "b": (4, [])})
        from_masters([axis_on()], [first, second])
        letters = second[1]
        for wrong in ((Setting(w=5), letters), (Setting(w=Ratio(-1, 1000)), letters), (Setting(), letters), (Setting(v=0), letters),
                      (Setting(v=0, w=0), letters), ("w=0", letters), ({"w": 0}, letters), (Setting(w=0),), (Setting(w=0), letters, 1),
                      [Setting(w=0), letters], (Setting(w=0), {}), (Setting(w=0), [("a", (3, rounds))]), (Setting(w=0), None),
                      (Setting(w=1), letters), (Setting(w=0), {"a": (3, rounds)}), (Setting(w=0), {"a": (3, rounds), "c": (4, [])}),
                      (Setting(w=0), {**letters, "c": (1, [])}), (Setting(w=0), {**letters, "B": (1, [])}), (Setting(w=0), {"a": (3, rounds), "bb": (4, [])}),
                      (Setting(w=0), {"a": (3, rounds), 0: (4, [])}), (Setting(w=0), {**letters, "b": (4, [[(0, 0)]])}),
                      (Setting(w=0), {**letters, "a": (3, rounds[:1])}), (Setting(w=0), {**letters, "a": (3, rounds[::-1])}),
                      (Setting(w=0), {**letters, "a": (3, [[(0, 0)], [(2, 2), (1, 1)]])}), (Setting(w=0), {**letters, "a": (3, [[*rounds[0], (0, 0)], rounds[1]])}),
                      (Setting(w=0), {**letters, "b": 4}), (Setting(w=0), {**letters, "b": [4, []]}), (Setting(w=0), {**letters, "b": (4,)}),
                      (Setting(w=0), {**letters, "b": (4, [], [])}), (Setting(w=0), {**letters, "b": (True, [])}), (Setting(w=0), {**letters, "b": ("4", [])}),
                      (Setting(w=0), {**letters, "b": (Quantity(4), [])}), (Setting(w=0), {**letters, "b": (4, None)}), (Setting(w=0), {**letters, "b": (4, [[]])}),
                      (Setting(w=0), {**letters, "b": (4, {})}), (Setting(w=0), {**letters, "a": (3, [[(0, 0), [1, 1]], [(2, 2)]])}),
                      (Setting(w=0), {**letters, "a": (3, [[(0, 0), (1, 1, 1)], [(2, 2)]])}), (Setting(w=0), {**letters, "a": (3, [[(0, 0), (1, True)], [(2, 2)]])})):
            self.refused(InvalidMasters(1), from_masters, [axis_on()], [first, wrong])
            self.refused(InvalidMasters(1), from_masters, [axis_on()], [first, wrong, second])
            # The first of two wrong ones counts, also if the other one is at no home.
            self.refused(InvalidMasters(1), from_masters, [axis_on()], [first, wrong, None])
            self.refused(InvalidMasters(2), from_masters, [axis_on()], [first, (Setting(w=2), letters), wrong, wrong])
        for wrong in ((Setting(w=1), {}), (Setting(w=9), letters), (Setting(w=1), {"a": (1, [[]])})):
            self.refused(InvalidMasters(0), from_masters, [axis_on()], [wrong, second])

    def test_a_setting_that_comes_again(self):
        masters = widths((0, 10), (1, 11), (2, 12), (Ratio(2, 2), 13), (0, 14))
        self.refused(InvalidMasters(3), from_masters, [axis_on()], masters)
        self.refused(InvalidMasters(3), from_masters, [axis_on()], masters[:3] + masters[4:])

    def test_none_at_the_home(self):
        masters = widths((0, 10), (1, 11), (2, 12))
        self.refused(InvalidMasters(3), from_masters, [axis_on(home=3)], masters)
        self.refused(InvalidMasters(2), from_masters, [axis_on()], masters[1:])
        axes = [axis_on("v"), axis_on()]
        self.refused(InvalidMasters(2), from_masters, axes, widths(((0, 1), 1), ((1, 0), 2), v=0, w=0))


class MastersOf(Case):
    def test_the_corners_in_order(self):
        axes = [axis_on(home=1), axis_on("v", most=2)]
        a = Letter(Quantity(10, (Reach(v=Tent(0, 1, 2)), 4)), [(0, 0)], rows=[SparseRow(Reach(w=Tent(1, 4, 4)), {0: (3, 6)})])
        told_masters = list(masters_of(Design(axes, {"a": a, "b": Letter(Quantity(1, (Reach(w=Tent(1, 2, 3)), 1)))})))
        places = [(v, w) for v in range(3) for w in range(5)]
        self.assertEqual([setting for setting, _ in told_masters], [Setting(v=v, w=w) for v, w in places])
        for (v, w), (_, letters) in zip(places, told_masters):
            self.assertEqual(list(letters), ["a", "b"])
            self.assertEqual(letters["a"][0], Ratio(14 if v == 1 else 10))
            self.assertEqual(letters["b"][0], Ratio(2 if w == 2 else 1))
            rise = max(0, w - 1)
            self.assertEqual([list(points) for points in letters["a"][1]], [[(Ratio(rise), Ratio(2 * rise))]])

    def test_places_stand_behind_the_bends(self):
        design = Design([axis_on(bend=[(0, 0), (1, 3), (4, 4)])], {"a": Letter(Quantity(0, (Reach(w=Tent(0, 2, 4)), 4)))})
        found = list(masters_of(design=design))
        self.assertEqual([(str(setting), str(letters["a"][0])) for setting, letters in found], [("w=0", "0"), ("w=2", "4"), ("w=4", "0")])

    def test_without_axes(self):
        found = list(masters_of(Design([], {"a": Letter(Quantity(3), [(1, 2)])})))
        self.assertEqual([(setting, letters["a"][0]) for setting, letters in found], [(Setting(), Ratio(3))])

    def test_there_and_back_again(self):
        for seed in range(60):
            maker = Maker(seed)
            axes = [maker.axis(name) for name in ("", "w", "vw", "xyz")[seed % 4]]
            design = Design(axes, {name: maker.letter(axes) for name in "abc"})
            ahead = kind_of(design)
            masters = list(masters_of(design))
            made = from_masters(design.axes, masters)
            self.assertEqual(kind_of(design), ahead)
            for _ in range(5):
                setting, text = maker.setting(axes), maker.text("abc")
                self.same(made(setting, text), design(setting, text))
            # The masters of what is made make the same again.
            again = from_masters(design.axes, list(masters_of(made)))
            self.assertEqual(alike(again, design)[0], "alike")

    def test_errors_in_their_order(self):
        y = Letter(Quantity(1))
        part = Letter(Quantity(1), parts=[("y", 0, 0)])
        pairs, swaps = {"yy": Quantity(1)}, [({}, {"y": "y"})]
        for letters, told_pairs, told_swaps, reason in (
                ({"y": y, "z": part}, pairs, swaps, "parts"), ({"y": y, "z": part}, {}, [], "parts"), ({"y": y}, pairs, swaps, "pairs"),
                ({"y": y}, {"yy": Quantity(0)}, [], "pairs"), ({"y": y}, {}, swaps, "swaps"), ({"y": y}, None, swaps, "swaps")):
            design = Design([], letters, pairs=told_pairs, swaps=told_swaps)
            self.refused(InvalidDesign(reason), lambda: next(masters_of(design)))
        self.refused(InvalidDesign("parts"), lambda: list(masters_of(flattening_design())))
        self.refused(InvalidDesign("parts"), lambda: list(masters_of(drawn_design())))

    def test_asked_by_turns(self):
        design = Design([axis_on()], {"a": Letter(Quantity(1))})
        one, other = masters_of(design), masters_of(design)
        self.same(next(one), next(other))
        self.same(next(one), next(other))
        self.assertEqual((list(one), list(other)), ([], []))

    def test_masters_are_new(self):
        design = Design([axis_on()], {"a": Letter(Quantity(1), [(0, 0)], rows=[FullRow(Reach(w=Tent(0, 4, 4)), [(1, 1)])])})
        for _, letters in masters_of(design):
            letters.clear()
        self.assertEqual([list(letters) for _, letters in masters_of(design)], [["a"], ["a"]])
