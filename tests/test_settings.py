"""Settings: how they are made, asked, changed into others, written and read."""

from betweenfaces.errors import InvalidSetting, InvalidText, UnknownAxis
from betweenfaces.ratios import Ratio
from betweenfaces.settings import Setting
from tests.values import Case, HALF, is_a_number, odd_values

RIGHT_NAMES = {"a", "w", "ab", "weight", "letters"}


class Made(Case):
    def test_by_keyword_and_by_dict(self):
        for one in (Setting(wt=400, wd=HALF), Setting.of({"wt": 400, "wd": HALF}),
                    Setting.of(places={"wd": HALF, "wt": Ratio(400)})):
            self.same([one.names, len(one), list(one), one["wd"], one["wt"]],
                      [("wd", "wt"), 2, ["wd", "wt"], HALF, Ratio(400)])
            self.assertEqual((str(one), repr(one)), ("wd=1/2 wt=400", "Setting(wd=1/2, wt=400)"))
        for none in (Setting(), Setting.of({})):
            self.same([none.names, len(none), list(none), str(none), repr(none)], [(), 0, [], "", "Setting()"])
        self.same(Setting(places=3, name=1).names, ("name", "places"))

    def test_the_dict_can_be_changed_later(self):
        places = {"w": 1}
        made = Setting.of(places)
        places["w"] = 2
        places["x"] = None
        self.equal(made, Setting(w=1))

    def test_wrong_names_first(self):
        for value in odd_values():
            if not isinstance(value, dict) or list(value) not in ([], ["w"]):
                self.refused(InvalidSetting(None), Setting.of, value)
        for name in ("self", "W", "", "toolongname", "w1", 1, None, ("w",), True, HALF.top):
            self.refused(InvalidSetting(None), Setting.of, {name: 1})
            self.refused(InvalidSetting(None), Setting.of, {"a": None, name: 1})
        for name in ("W", "", "toolongname", "w1", "w\n"):
            self.refused(InvalidSetting(None), Setting, **{"a": None, name: 1})

    def test_then_the_least_name_with_a_wrong_place(self):
        for value in odd_values():
            if not is_a_number(value):
                self.refused(InvalidSetting("b"), Setting, b=value, a=1, c=None)
                self.refused(InvalidSetting("b"), Setting.of, {"c": value, "b": value, "a": 1})


class Asked(Case):
    def test_in_and_index_for_any_value(self):
        self.asked_by_names(Setting(w=3, weight=4), ("w", "weight"))

    def test_moved(self):
        made = Setting(w=3, x=HALF)
        self.equal(made.moved("w", 4), Setting(w=4, x=HALF))
        self.equal(made.moved(place=Ratio(1, 3), name="a"), Setting(a=Ratio(1, 3), w=3, x=HALF))
        self.same(made.moved("a", 1).names, ("a", "w", "x"))
        for value in odd_values():
            if not isinstance(value, str) or value not in RIGHT_NAMES:
                self.refused(InvalidSetting(None), made.moved, value, 1)
                self.refused(InvalidSetting(None), made.moved, value, None)
            if not is_a_number(value):
                self.refused(InvalidSetting("a"), made.moved, "a", value)
                self.refused(InvalidSetting("w"), made.moved, "w", place=value)
        self.equal(made, Setting(w=3, x=HALF))

    def test_without(self):
        made = Setting(w=3, x=HALF)
        for value in odd_values():
            if not isinstance(value, str) or value != "w":
                with self.assertRaises(UnknownAxis) as caught:
                    made.without(value)
                self.assertIs(caught.exception.name, value)
        self.equal(made.without("w"), Setting(x=HALF))
        self.equal(made.without(name="x").without("w"), Setting())
        self.refused(UnknownAxis("y"), made.without, "y")
        self.equal(made, Setting(w=3, x=HALF))

    def test_equal(self):
        self.equal(Setting(a=1, b=2), Setting(b=Ratio(4, 2), a=1))
        for other in (Setting(a=1), Setting(a=1, b=3), Setting(a=2, b=1), Setting(a=1, c=2), Setting()):
            self.unequal(Setting(a=1, b=2), other)
        self.equal_to_none(Setting(w=1))


class Lines(Case):
    def test_written_and_read(self):
        for text in ("", "w=1", "wd=1/2 wt=400", "a=-1/3 b=0 zzzzzzzz=7"):
            self.assertEqual(str(Setting.read(text=text)), text)
        self.equal(Setting.read("wt=400 wd=1/2"), Setting(wd=HALF, wt=400))

    def test_the_first_wrong_word(self):
        for text, word in ((" ", 0), ("w", 0), ("w=", 0), ("=1", 0), ("w=1 ", 1), (" w=1", 0), ("w=1  x=2", 1),
                           ("w=1 w=2", 1), ("w=1 x=2 w=1", 2), ("w=x w=1", 0), ("w=1 w=x", 1), ("w=1..2", 0),
                           ("w=1 x=1..2", 1), ("self=1", 0), ("W=1", 0), ("w=1=1", 0), ("w=2/4", 0), ("w=1\n", 0),
                           ("w=1\nx=1", 0), ("w=1 x=1\n", 1), ("w=" + "1" * 61, 0), ("w=1,x=2", 0), ("toolongname=1", 0)):
            self.refused(InvalidText(0, word), Setting.read, text)
        for value in odd_values():
            if not isinstance(value, str) or value not in ("", "w=1"):
                self.refused(InvalidText(0, 0), Setting.read, value)
