"""Rooms: how they are made, asked, joined, written and read."""

import itertools

from betweenfaces.errors import InvalidRoom, InvalidText
from betweenfaces.ratios import Ratio
from betweenfaces.rooms import Room
from betweenfaces.settings import Setting
from tests.values import Case, HALF, is_a_number, odd_values


def is_a_span(value):
    if isinstance(value, tuple) and len(value) in (2, 3) and all(is_a_number(one) for one in value):
        ordered = [Ratio.of(one) for one in value]
        return ordered[0].under(ordered[-1]) and not any(b.under(a) for a, b in zip(ordered, ordered[1:]))
    return is_a_number(value)


class Made(Case):
    def test_pins_and_stretches(self):
        for one in (Room(wt=(100, 400, 900), wd=HALF, x=(0, 1)), Room.of({"x": (0, 1), "wd": HALF, "wt": (100, 400, 900)}),
                    Room.of(spans={"wt": (Ratio(100), 400, 900), "wd": Ratio(2, 4), "x": (0, Ratio(1))})):
            self.same([one.names, len(one), list(one)], [("wd", "wt", "x"), 3, ["wd", "wt", "x"]])
            self.same([one["wd"], one["wt"], one["x"]],
                      [(HALF, HALF, HALF), (Ratio(100), Ratio(400), Ratio(900)), (Ratio(0), None, Ratio(1))])
            self.assertEqual((str(one), repr(one)), ("wd=1/2 wt=100..400..900 x=0..1",
                                                     "Room(wd=1/2, wt=100..400..900, x=0..1)"))
        for none in (Room(), Room.of({})):
            self.same([none.names, len(none), list(none), str(none), repr(none)], [(), 0, [], "", "Room()"])
        self.same(Room(w=(0, 0, 1))["w"], (Ratio(0), Ratio(0), Ratio(1)))
        self.same(Room(w=(0, 1, 1))["w"], (Ratio(0), Ratio(1), Ratio(1)))

    def test_the_dict_can_be_changed_later(self):
        spans = {"w": 1}
        made = Room.of(spans)
        spans["w"] = 2
        spans["x"] = 1
        self.equal(made, Room(w=1))

    def test_wrong_names_first(self):
        for value in odd_values():
            if not isinstance(value, dict) or list(value) not in ([], ["w"]):
                self.refused(InvalidRoom(None), Room.of, value)
        for name in ("self", "W", "", "toolongname", "w1", 1, None, ("w",), True):
            self.refused(InvalidRoom(None), Room.of, {name: 1})
            self.refused(InvalidRoom(None), Room.of, {"a": None, name: 1})
        for name in ("W", "", "toolongname", "w1", "w\n"):
            self.refused(InvalidRoom(None), Room, **{"a": None, name: 1})

    def test_then_the_least_name_with_a_wrong_span(self):
        wrong = [(1, 1), (1, 1, 1), (2, 1), (0, 2, 1), (1, 0, 2), (0, 1, 1, 1), (0, None, 1), (0, 1, "2"), (True, 2), (0, False),
                 [0, 1], (HALF, HALF), ((0, 1),)]
        for value in odd_values() + wrong:
            if is_a_span(value):
                self.assertEqual(len(Room(b=value)), 1)
            else:
                self.refused(InvalidRoom("b"), Room, b=value, a=1, c=None)
                self.refused(InvalidRoom("b"), Room.of, {"c": value, "b": value, "a": (1, 2)})


class Asked(Case):
    def test_in_and_index_for_any_value(self):
        self.asked_by_names(Room(w=3, weight=(4, 5)), ("w", "weight"))

    def test_holds(self):
        room = Room(w=(0, HALF, 1), x=3)
        for setting, told in ((Setting(w=0, x=3), True), (Setting(w=1, x=3), True), (Setting(w=HALF, x=3, y=9), True),
                              (Setting(w=2, x=3), False), (Setting(w=-1, x=3), False), (Setting(w=1, x=4), False),
                              (Setting(w=1), False), (Setting(x=3), False), (Setting(), False)):
            self.assertIs(room.holds(setting=setting), told)
        self.assertIs(Room().holds(Setting()), True)
        self.assertIs(Room().holds(Setting(w=1)), True)

    def test_equal(self):
        self.equal(Room(a=1, b=(0, 1)), Room(b=(0, Ratio(3, 3)), a=Ratio(1)))
        for other in (Room(a=1), Room(a=1, b=(0, 2)), Room(a=1, b=(0, 0, 1)), Room(a=(0, 1), b=1), Room()):
            self.unequal(Room(a=1, b=(0, 1)), other)
        self.unequal(Room(a=(0, 0, 1)), Room(a=(0, 1, 1)))
        self.equal_to_none(Room(w=1))


class Both(Case):
    def test_the_home_of_other_then_of_one(self):
        for one, other, told in (
            ((0, 10), (5, 20), "5..10"), ((0, 10), (2, 4), "2..4"), ((2, 4), (0, 10), "2..4"), ((0, 10), (0, 10), "0..10"),
            ((0, 1, 10), (5, 20), "5..5..10"), ((0, 7, 10), (5, 20), "5..7..10"), ((0, 10), (5, 15, 20), "5..10..10"),
            ((0, 10), (5, 6, 20), "5..6..10"), ((0, 7, 10), (5, 6, 20), "5..6..10"), ((0, 7, 10), (5, 15, 20), "5..10..10"),
            ((0, 10, 10), (5, 5, 20), "5..5..10"), ((0, 10), (10, 20), "10"), ((0, 5, 10), (10, 15, 20), "10"),
            (5, (0, 10), "5"), ((0, 3, 10), 5, "5"), (5, 5, "5"), (10, (0, 10), "10"), (0, (0, 10), "0"),
        ):
            one_room, other_room = Room(w=one), Room(w=other)
            both = one_room & other_room
            self.assertEqual(str(both), "w=" + told)
            self.equal(one_room, Room(w=one))
            self.equal(other_room, Room(w=other))

    def test_spans_that_do_not_meet(self):
        for one, other in ((5, 6), (5, (6, 7)), ((0, 4), 5), ((0, 1), (2, 3)), ((2, 3), (0, 1)), ((0, 1, 1), (2, 2, 3))):
            self.assertIs(Room(w=one) & Room(w=other), None)
            self.assertIs(Room(w=one, a=1) & Room(a=1, w=other), None)

    def test_names_of_one_alone(self):
        self.equal(Room(a=1, b=(0, 1, 2)) & Room(c=(3, 4), b=(1, 3)), Room(a=1, b=(1, 1, 2), c=(3, 4)))
        self.equal(Room(a=(0, 1, 2)) & Room(), Room(a=(0, 1, 2)))
        self.equal(Room() & Room(a=(0, 2)), Room(a=(0, 2)))
        self.equal(Room() & Room(), Room())

    def test_both_hold_what_each_holds(self):
        spans = [0, 1, 2, 3] + [(low, high) for low, high in itertools.combinations(range(4), 2)]
        settings = [Setting(w=Ratio(part, 2)) for part in range(-1, 8)]
        for one, other in itertools.product(spans, spans):
            both = Room(w=one) & Room(w=other)
            for setting in settings:
                told = Room(w=one).holds(setting) and Room(w=other).holds(setting)
                self.assertIs(both is not None and both.holds(setting), told)


class Lines(Case):
    def test_written_and_read(self):
        for text in ("", "w=1", "a=0..1 b=-1/2", "wd=1 wt=200..300..400", "w=0..0..1"):
            self.assertEqual(str(Room.read(text=text)), text)
        self.equal(Room.read("wt=1..2 wd=1/2"), Room(wd=HALF, wt=(1, 2)))

    def test_the_first_wrong_word(self):
        for text, word in (("wt=1..2 wt=3", 1), (" ", 0), ("w", 0), ("w=", 0), ("=1", 0), ("w=1 ", 1), ("w=1...2", 0),
                           ("w=1....2", 0), ("w=..1", 0), ("w=1..", 0), ("w=1..2..", 0), ("w=1..2..3..4", 0), ("w=1.2", 0),
                           ("w=1  x=1", 1), ("w=1..2/4", 0), ("x=1 self=1", 1), ("w=1..2\n", 0), ("w=2..1 x", 1),
                           ("w=" + "1" * 61 + "..2", 0), ("x=0 w=1..1" + "0" * 60, 1), ("w=1-2", 0), ("w=1..2=3", 0)):
            self.refused(InvalidText(0, word), Room.read, text)
        for value in odd_values():
            if not isinstance(value, str) or value not in ("", "w=1"):
                self.refused(InvalidText(0, 0), Room.read, value)

    def test_the_class_looks_at_the_order_behind_the_words(self):
        self.refused(InvalidRoom("w"), Room.read, "x=2..1 w=2..1")
        self.refused(InvalidRoom("w"), Room.read, "w=1..1")
        self.refused(InvalidRoom("x"), Room.read, "x=0..2..1 z=1..0")
