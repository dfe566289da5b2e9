"""Designs cut to rooms: the points [5] and [22] and the cutting module."""

from betweenfaces.axes import Axis
from betweenfaces.cutting import cut
from betweenfaces.designs import Design
from betweenfaces.errors import InvalidRoom, UnknownAxis
from betweenfaces.letters import Letter
from betweenfaces.plain import plain
from betweenfaces.quantities import Quantity
from betweenfaces.ratios import Ratio
from betweenfaces.rooms import Room
from betweenfaces.rows import FullRow
from betweenfaces.settings import Setting
from betweenfaces.tents import Reach, Tent
from tests.drawn import in_ratios, inner_places, picture_at, told
from tests.examples import HALF, UP, axis_w, example_design
from tests.makers import Maker
from tests.values import Case, kind_of

QUARTER = Ratio(1, 4)


def texts(quantity):
    return [str(quantity.home)] + [f"{reach} {delta}" for reach, delta in quantity.rows]


def two_axes():
    axes = [Axis("w", least=0, home=0, most=4), Axis("v", least=0, home=2, most=4)]
    return Design(axes, {"a": Letter(Quantity(1, (Reach(w=Tent(0, 4, 4), v=Tent(2, 4, 4)), 1)))})


def some_span(maker, axis):
    """A span within an axis: a pin, a stretch, or one with a home."""
    steps = 6
    places = [axis.least + (axis.most - axis.least) * Ratio(number, steps) for number in range(steps + 1)]
    low, high = sorted(maker.chance.sample(range(steps + 1), 2))
    home = places[maker.chance.randint(low, high)]
    return maker.chance.choice((places[low], (places[low], places[high]), (places[low], home, places[high])))


def some_room(maker, axes):
    return Room.of({axis.name: some_span(maker, axis) for axis in axes if maker.chance.random() < 0.8})


def with_pins(setting, room):
    for name in room:
        if room[name][0] == room[name][2]:
            setting = setting.moved(name, room[name][0])
    return setting


class Examples(Case):
    def test_of_the_document(self):
        for room, axis, want in (
                (Room(a=(QUARTER, 1)), "axis a 1/4 1/4 1", ["215/2", "a:1/4..1/2..1 15/2", "a:1/2..1..1 85/2"]),
                (Room(a=(0, Ratio(3, 4))), "axis a 0 0 3/4", ["100", "a:0..1/2..3/4 15", "a:1/2..3/4..3/4 65/2"])):
            made = example_design().cut(room)
            self.assertEqual([str(axis) for axis in made.axes], [axis])
            self.assertEqual(texts(made["y"].width), want)
        made = cut(design=example_design(), room=Room(a=Ratio(3, 4)))
        self.assertEqual((texts(made["y"].width), made.axes), (["265/2"], []))

    def test_a_box_behind_a_bend(self):
        axis = Axis("a", least=0, home=0, most=1, bend=[(0, 0), (QUARTER, HALF), (Ratio(3, 4), HALF), (1, 1)])
        letters = {"a": Letter(Quantity(0)), "b": Letter(Quantity(1))}
        design = Design([axis], letters, swaps=[({"a": (HALF, 1)}, {"a": "b"})])
        for span, want in (((0, QUARTER), [(QUARTER, QUARTER)]), ((0, Ratio(1, 5)), None), ((QUARTER, 1), [None]), ((0, 1), [(QUARTER, Ratio(1))]),
                           ((HALF, Ratio(3, 4)), [None]), ((0, Ratio(1, 3)), [(QUARTER, Ratio(1, 3))]), (QUARTER, [None]), (0, None), (1, [None])):
            swaps = design.cut(Room(a=span)).swaps
            self.assertEqual([box.get("a") for box, _ in swaps], [] if want is None else want)


class Rooms(Case):
    def test_random_rooms(self):
        for seed in range(120):
            maker = Maker(seed)
            design = maker.design(names=("", "w", "wt", "xyz")[seed % 4])
            room = some_room(maker, design.axes)
            ahead = kind_of((design, room))
            made = design.cut(room)
            self.assertEqual(kind_of((design, room)), ahead)
            self.same(made, cut(design, room))
            self.same(plain(made), made)
            self.same(plain(design).cut(room), made)
            for setting, text in [(maker.setting(made.axes), maker.text("abcd")) for _ in range(4)]:
                whole = inner_places(design, told(with_pins(setting, room)))
                self.same(made(setting, text), in_ratios(picture_at(design, whole, text)))

    def test_rooms_within_rooms(self):
        for seed in range(120):
            maker = Maker(seed)
            design = maker.design(names=("w", "wt", "xyz")[seed % 3])
            room = some_room(maker, design.axes)
            made = design.cut(room)
            within = some_room(maker, made.axes)
            self.same(made.cut(within), design.cut(room & within))

    def test_pins_one_after_the_other_and_at_once(self):
        for seed in range(20):
            maker = Maker(seed)
            design = maker.design(names="xyz")
            pins = {axis.name: maker.place(axis) for axis in design.axes}
            at_once = design.cut(Room.of(pins))
            self.assertEqual((at_once.axes, len(at_once.homes)), ([], 0))
            for order in ("xyz", "zyx", "yxz"):
                made = design
                for name in order:
                    made = made.cut(Room.of({name: pins[name]}))
                self.same(made, at_once)
            at = inner_places(design, told(Setting.of(pins)))
            self.same(at_once(Setting(), "abcd"), in_ratios(picture_at(design, at, "abcd")))

    def test_homes(self):
        design = two_axes()
        for span, home in (((1, 3), 2), ((3, 4), 3), ((0, 1), 1), ((0, 3, 4), 3), ((2, 2, 3), 2), ((0, 0, 4), 0), ((0, 4), 2)):
            self.assertEqual(design.cut(Room(v=span)).homes, Setting(v=home, w=0))
        self.assertEqual(design.cut(Room(v=3)).homes, Setting(w=0))

    def test_an_axis_that_is_not_named_stays_whole(self):
        made = two_axes().cut(Room(v=(2, 3)))
        self.assertEqual([str(axis) for axis in made.axes], ["axis v 2 2 3", "axis w 0 0 4"])
        self.equal(two_axes().cut(Room()), plain(two_axes()))

    def test_a_home_that_is_moved_behind_a_cut(self):
        for seed in range(30):
            maker = Maker(seed)
            design = maker.design(names=("w", "wt")[seed % 2])
            moved = design
            for axis in design.axes:
                moved = moved.cut(Room.of({axis.name: (axis.least, maker.place(axis), axis.most)}))
            back = Room.of({axis.name: (axis.least, axis.home, axis.most) for axis in design.axes})
            self.same(moved.cut(back), plain(design))

    def test_parts_move_with_the_home(self):
        b = Letter(Quantity(0), [(0, 0)], parts=[("a", 1, 1)], rows=[FullRow(UP, [(4, 0), (0, 8)])])
        design = Design([axis_w()], {"a": Letter(Quantity(0), [(0, 0)]), "b": b})
        made = design.cut(Room(w=(QUARTER, 1)))["b"]
        self.assertEqual((made.rounds, made.parts), (((((Ratio(1), Ratio(0))),),), (("a", Ratio(1), Ratio(3)),)))
        self.assertEqual(made.rows, (FullRow(Reach(w=Tent(QUARTER, 1, 1)), [(3, 0), (0, 6)]),))

    def test_pairs_that_become_0(self):
        pairs = {"aa": Quantity(0, (Reach(w=Tent(HALF, 1, 1)), 1))}
        design = Design([axis_w()], {"a": Letter(Quantity(0))}, pairs=pairs)
        self.assertEqual(design.cut(Room(w=(0, HALF))).pairs, {})
        self.assertEqual(design.cut(Room(w=Ratio(3, 4))).pairs, {"aa": Quantity(HALF)})

    def test_swaps_and_pins(self):
        letters = {name: Letter(Quantity(number)) for number, name in enumerate("abc")}
        axes = [axis_w(), Axis("v", least=0, home=0, most=1)]
        swaps = [({"v": (0, HALF), "w": (HALF, 1)}, {"a": "b"}), ({"v": (1, 1)}, {"b": "c"})]
        design = Design(axes, letters, swaps=swaps)
        self.assertEqual(design.cut(Room(w=0)).swaps, [({"v": (Ratio(1), Ratio(1))}, {"b": "c"})])
        self.assertEqual(design.cut(Room(w=HALF)).swaps, [({"v": (Ratio(0), HALF)}, {"a": "b"}), ({"v": (Ratio(1), Ratio(1))}, {"b": "c"})])
        self.assertEqual(design.cut(Room(w=1, v=0)).swaps, [({}, {"a": "b"})])
        self.assertEqual(design.cut(Room(v=(HALF, Ratio(3, 4)))).swaps, [({"v": (HALF, HALF), "w": (HALF, Ratio(1))}, {"a": "b"})])


class Wrong(Case):
    def test_unknown_axes_come_first(self):
        for call in (lambda room: cut(two_axes(), room), lambda room: two_axes().cut(room)):
            self.refused(UnknownAxis("a"), call, Room(x=1, a=2, w=9))
            self.refused(UnknownAxis("x"), call, Room(x=1, w=9))
            self.refused(UnknownAxis("w"), lambda room: Design([], {"a": Letter(Quantity(0))}).cut(room), Room(w=1))

    def test_the_least_span_that_does_not_lie_within(self):
        for call in (lambda room: cut(two_axes(), room), lambda room: two_axes().cut(room)):
            for spans, name in (({"v": (0, 5), "w": 9}, "v"), ({"v": (-1, 2)}, "v"), ({"v": 5}, "v"), ({"w": (3, 4, 5), "v": 4}, "w"),
                                ({"w": (Ratio(-1, 1000), 4)}, "w"), ({"v": (5, 6)}, "v"), ({"v": 1, "w": (-2, -1)}, "w")):
                self.refused(InvalidRoom(name), call, Room.of(spans))
        self.refused(InvalidRoom("w"), two_axes().cut(Room(w=(1, 2))).cut, Room(w=(0, 2)))
