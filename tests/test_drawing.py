"""Pictures, outlines, widths and inner places: the points [2], [4], [8], [10] to [12] and the drawing module."""

from betweenfaces.axes import Axis
from betweenfaces.designs import Design
from betweenfaces.drawing import drawn_as, inner, outline, picture, pictures, width
from betweenfaces.errors import InvalidSetting, UnknownAxis, UnknownLetter
from betweenfaces.letters import Letter
from betweenfaces.quantities import Quantity
from betweenfaces.ratios import Ratio
from betweenfaces.settings import Setting
from betweenfaces.tents import Reach, Tent
from tests.drawn import drawn_as_at, in_ratios, inner_places, outline_at, picture_at, told
from tests.examples import HALF, drawn_design, nested_design, swapping_design
from tests.makers import Maker
from tests.oracle import ratio
from tests.values import Case, odd_values


def two_axes():
    """A design with the axes v, from 0 to 2, and w, from 1 to 3, the home of w at the end."""
    axes = [Axis("w", least=1, home=3, most=3), Axis("v", least=0, home=1, most=2)]
    return Design(axes, {"a": Letter(Quantity(1), [(0, 0)])})


class Pictures(Case):
    def test_the_example_of_the_document(self):
        rounds, end = drawn_design()(Setting(w=HALF), "ab")
        self.assertEqual([[str(x) for x, y in points] for points in rounds], [["0", "8"], ["9"], ["11", "19"]])
        self.assertEqual(str(end), "21")
        self.assertEqual(str(drawn_design()(Setting(w=1), "ab")[1]), "20")

    def test_random_texts_are_drawn_as_the_document_tells(self):
        for seed in range(60):
            maker = Maker(seed)
            design = maker.design(names=("", "w", "wt", "xyz")[seed % 4])
            for _ in range(4):
                setting, text = maker.setting(design.axes), maker.text("abcd", 6)
                at = inner_places(design, told(setting))
                self.same(picture(design, setting, text), in_ratios(picture_at(design, at, text)))
                self.same(width(design, setting, text), in_ratios(picture_at(design, at, text)[1]))
                self.same(inner(design, setting), Setting.of({name: ratio(at[name]) for name in at}))
                for name in "abcd":
                    self.same(outline(design, setting, name), in_ratios(outline_at(design, at, name)))
                    self.same(drawn_as(design, setting, name), drawn_as_at(design, at, name))

    def test_the_empty_text(self):
        self.same(picture(drawn_design(), Setting(w=0), ""), ([], Ratio(0)))
        self.same(width(drawn_design(), Setting(w=0), ""), Ratio(0))

    def test_a_text_of_twenty_letters(self):
        rounds, end = picture(drawn_design(), Setting(w=0), "ab" * 10)
        self.assertEqual((len(rounds), end), (30, Ratio(190)))

    def test_parts_four_deep_are_drawn_and_move(self):
        design = nested_design()
        for setting in (Setting(w=0), Setting(w=Ratio(1, 3)), Setting(w=1)):
            want = in_ratios(outline_at(design, inner_places(design, told(setting)), "e"))
            self.same(outline(design, setting, "e"), want)
            self.assertEqual(len(want), 31)

    def test_empty_letters_that_are_parts_many_times_are_drawn_at_once(self):
        letters = {"a": Letter(Quantity(1))}
        for before, name in zip("abcd", "bcde"):
            letters[name] = Letter(Quantity(1), parts=[(before, 1, 1)] * 16)
        self.assertEqual(outline(Design([], letters), Setting(), "e"), [])

    def test_swaps(self):
        design = swapping_design()
        # The first box that holds counts, and the letter to which it leads is not looked up again.
        for place, want in ((0, "dccd"), (HALF, "bccd"), (1, "bcad")):
            self.assertEqual("".join(drawn_as(design, Setting(w=place), name) for name in "abcd"), want)
        self.assertEqual([str(width(design, Setting(w=HALF), name)) for name in "abcd"], ["2", "3", "3", "4"])
        # Outlines are told without swaps.
        self.assertEqual(outline(design, Setting(w=1), "a"), [[(Ratio(1), Ratio(0))]])

    def test_the_shift_is_that_of_the_letters_drawn(self):
        pairs = {"aa": Quantity(3), "ab": Quantity(100), "ba": Quantity(50)}
        letters = {"a": Letter(Quantity(0)), "b": Letter(Quantity(0))}
        design = Design([], letters, pairs=pairs, swaps=[({}, {"b": "a"})])
        self.assertEqual([str(width(design, Setting(), text)) for text in ("a", "b", "ab", "ba", "bb", "abab")],
                         ["0", "0", "3", "3", "3", "9"])

    def test_bends_lead_to_inner_places(self):
        axis = Axis("w", least=0, home=0, most=4, bend=[(0, 0), (1, 2), (3, 2), (4, 4)])
        wide = Quantity(0, (Reach(w=Tent(0, 4, 4)), 4))
        design = Design([axis], {"a": Letter(wide)}, swaps=[({"w": (3, 3)}, {"a": "a"})])
        places = (0, HALF, 1, 2, 3, Ratio(7, 2), 4)
        self.assertEqual([str(width(design, Setting(w=place), "a")) for place in places], ["0", "1", "2", "2", "2", "3", "4"])
        self.same(inner(design, Setting(w=2)), Setting(w=2))
        self.same(inner(design, Setting(w=HALF)), Setting(w=1))

    def test_what_is_told_belongs_to_the_caller(self):
        design = drawn_design()
        for call in (lambda: picture(design, Setting(w=0), "ab")[0], lambda: outline(design, Setting(w=0), "b"),
                     lambda: next(pictures(design, "bb", Setting(w=0)))[0]):
            rounds = call()
            want = [list(points) for points in rounds]
            rounds[0].append("more")
            rounds.pop()
            self.assertEqual(call(), want)
        rounds, _ = picture(design, Setting(w=0), "aa")
        rounds[0].append("more")
        self.assertEqual(len(rounds[1]), 2)

    def test_arguments_by_name(self):
        design, setting = drawn_design(), Setting(w=0)
        self.assertEqual(picture(design=design, setting=setting, text="ab"), design(setting=setting, text="ab"))
        self.assertEqual(outline(design=design, setting=setting, name="a"), outline(design, setting, "a"))
        self.assertEqual(drawn_as(design=design, setting=setting, name="b"), "b")
        self.assertEqual(width(design=design, setting=setting, text="a"), Ratio(10))
        self.assertEqual(inner(design=design, setting=setting), setting)


class WrongSettings(Case):
    def calls(self):
        yield lambda setting: two_axes()(setting, None)
        yield lambda setting: picture(two_axes(), setting, "xyz")
        yield lambda setting: outline(two_axes(), setting, "x")
        yield lambda setting: drawn_as(two_axes(), setting, None)
        yield lambda setting: width(two_axes(), setting, 7)
        yield lambda setting: inner(two_axes(), setting)
        yield lambda setting: next(pictures(two_axes(), "x", setting))
        yield lambda setting: next(pictures(two_axes(), "x", [Setting(v=0, w=1), setting]))

    def test_a_value_that_is_no_setting(self):
        for call in self.calls():
            for value in odd_values():
                if not isinstance(value, Setting) and not isinstance(value, list):
                    self.refused(InvalidSetting(None), call, value)

    def test_lists_are_no_settings(self):
        for call in list(self.calls())[:-2]:
            self.refused(InvalidSetting(None), call, [Setting(v=0, w=1)])
        self.refused(InvalidSetting(None), lambda: next(pictures(two_axes(), "a", [[Setting(v=0, w=1)]])))

    def test_an_unknown_axis_comes_first(self):
        for call in self.calls():
            self.refused(UnknownAxis("x"), call, Setting(z=0, y=0, x=0))
            self.refused(UnknownAxis("u"), call, Setting(u=0, v=9, w=1))

    def test_the_least_axis_that_lacks_or_is_beyond(self):
        wrong = {"v": [Setting(), Setting(w=9), Setting(v=3), Setting(v=-1, w=0), Setting(v=Ratio(201, 100), w=1)],
                 "w": [Setting(v=1), Setting(v=0, w=0), Setting(v=2, w=4)]}
        for call in self.calls():
            for name, settings in wrong.items():
                for setting in settings:
                    self.refused(InvalidSetting(name), call, setting)


class WrongTexts(Case):
    def test_texts(self):
        design, setting = two_axes(), Setting(v=0, w=1)
        for call in (lambda text: design(setting, text), lambda text: picture(design, setting, text),
                     lambda text: width(design, setting, text), lambda text: next(pictures(design, text, setting)),
                     lambda text: next(pictures(design, text)), lambda text: list(pictures(design, text, []))):
            for text, sign in (("b", "b"), ("aab", "b"), ("a b", " "), ("Ab", "A"), ("a\n", "\n"), ("aac" * 9, "c")):
                self.refused(UnknownLetter(sign), call, text)
            for value in odd_values():
                if not isinstance(value, str):
                    self.refused(UnknownLetter(value), call, value)

    def test_names(self):
        design, setting = two_axes(), Setting(v=0, w=1)
        for call in (outline, drawn_as):
            for value in odd_values():
                if value != "a":
                    self.refused(UnknownLetter(value), call, design, setting, value)


class ManyPictures(Case):
    def test_in_order(self):
        design = drawn_design()
        settings = [Setting(w=1), Setting(w=0), Setting(w=HALF)]
        want = [picture(design, setting, "ab") for setting in settings]
        self.same(list(pictures(design, "ab", *settings)), want)
        self.same(list(pictures(design, "ab", settings)), want)
        self.same(list(pictures(design, "ab", settings[0], settings[1:])), want)
        self.same(list(pictures(design, "ab", settings[:1], [], settings[1], [settings[2]])), want)
        self.assertEqual(list(pictures(design, "ab")), [])

    def test_all_settings_are_looked_at_ahead_of_the_text(self):
        told = pictures(drawn_design(), "ab", Setting(w=0), Setting(w=2), None)
        self.refused(InvalidSetting("w"), next, told)
        told = pictures(drawn_design(), "xy", Setting(w=0), [Setting(w=1), None])
        self.refused(InvalidSetting(None), next, told)
        self.refused(UnknownLetter("x"), next, pictures(drawn_design(), "xy", Setting(w=0)))

    def test_by_turns(self):
        design, other = drawn_design(), two_axes()
        one, two = pictures(design, "ab", Setting(w=0), Setting(w=1)), pictures(other, "a", Setting(v=0, w=1))
        three = pictures(design, "ba", Setting(w=0))
        first = next(one)
        self.assertEqual(next(two), other(Setting(v=0, w=1), "a"))
        self.assertEqual(next(three), design(Setting(w=0), "ba"))
        self.assertEqual([first, *one], list(pictures(design, "ab", Setting(w=0), Setting(w=1))))
        self.assertEqual([*two, *three], [])

    def test_a_list_that_is_changed_later(self):
        settings = [Setting(w=0), Setting(w=1)]
        told = pictures(drawn_design(), "ab", settings)
        next(told)
        settings.clear()
        self.assertEqual(len(list(told)), 1)
