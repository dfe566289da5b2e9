"""The desk: its lines, its answers and its errors, and what it takes back."""

from betweenfaces.alike import alike
from betweenfaces.alikecheck import check_unlike
from betweenfaces.axes import Axis
from betweenfaces.cutting import cut
from betweenfaces.desk import Desk
from betweenfaces.errors import (InvalidDesign, InvalidJoin, InvalidRoom, InvalidSetting, InvalidTent, InvalidText, Needed, NothingToUndo,
                                 NotOneRoom, UnknownAxis, UnknownCommand, UnknownLetter)
from betweenfaces.flatten import flattened
from betweenfaces.leaving import without
from betweenfaces.plain import plain
from betweenfaces.ratios import Ratio
from betweenfaces.reader import read_design, read_setting
from betweenfaces.rooms import Room
from betweenfaces.sparse import sparse
from betweenfaces.texts import design_text
from tests.makers import Maker
from tests.test_joining import renamed
from tests.values import Case, kind_of, odd_values

FACE = """axis v 0 0 2
axis w 0 0 4 bend 0:0 1:2 4:4
letter a 10
round 0,0 8,0 8,4
full v:0..2..2*w:0..4..4 2,0 0,0 1,1
letter b 20
wide 4 w:0..4..4
round 1,1
part a 2,5
letter c 5
pair ab -1
pair bb 3
shift -2 v:0..2..2
swap b>a in w:4..4"""
LOAD = "load " + FACE.replace("\n", " / ")
SMALL = "load axis w 0 0 1 / letter a 10 / wide 4 w:0..1..1 / swap a>a"
CHANGES = ("cut w 1 3", "cut w 1 2 3", "pin w 1/2", "home w 3", "plain", "sparse", "flatten b", "leave c", "flatten abab", "leave bc", "cut v 0 0 2")
QUESTIONS = ("show", "axes", "letters", "width v=0 w=1 ab", "draw w=1 v=0 -", "places b", "places ab", "widest abc", "narrowest -", "wider ab 3", "narrower ab 99",
             "rises w ab", "line 10 v v=1 w=1 a", "clear 2 ab")


def loaded(line=LOAD):
    desk = Desk()
    desk.say(line)
    return desk


class Lines(Case):
    def says(self, desk, *told):
        """Lines and their answers, one after the other."""
        for line, answer in zip(told[::2], told[1::2]):
            self.same(desk.say(line), answer)

    def test_load_and_show(self):
        desk = Desk()
        self.assertIs(desk.design, None)
        self.same(desk.depth, 0)
        self.same(desk.say(line=LOAD), "ok")
        self.same(desk.design, read_design(FACE))
        self.same((desk.say("show"), desk.depth), (LOAD.removeprefix("load "), 1))
        self.says(desk, SMALL, "ok", "show", SMALL.removeprefix("load "), "letters", "a", "undo", "ok", "show", LOAD.removeprefix("load "))
        self.says(desk, "load letter a 1", "ok", "show", "letter a 1", "axes", "-", "letters", "a")

    def test_changes(self):
        design = read_design(FACE)
        for line, want in (("cut w 1 3", cut(design, Room(w=(1, 3)))), ("cut w 1 2 3", cut(design, Room(w=(1, 2, 3)))), ("pin w 1/2", cut(design, Room(w=Ratio(1, 2)))),
                           ("home w 3", cut(design, Room(w=(0, 3, 4)))), ("plain", plain(design)), ("sparse", sparse(design)), ("flatten b", flattened(design, "b")),
                           ("flatten cb", flattened(design)), ("flatten cc", flattened(design, "c")), ("leave c", without(design, "c")), ("leave bcb", without(design, "b", "c"))):
            desk = loaded()
            self.says(desk, line, "ok")
            self.same((desk.design, desk.depth), (want, 2))
            self.says(desk, "undo", "ok")
            self.same((desk.design, desk.depth), (design, 1))

    def test_axes_letters_and_spans(self):
        self.says(loaded(), "axes", "v 0 0 2, w 0 0 4", "letters", "abc", "cut w 1/2 1 4", "ok", "axes", "v 0 0 2, w 1/2 1 4", "pin w 1", "ok", "axes", "v 0 0 2",
                  "pin v 0", "ok", "axes", "-", "leave c", "ok", "letters", "ab")

    def test_widths_and_pictures(self):
        # At w 1 the inner place is 2.
        self.says(loaded(), "width v=0 w=0 ab", "29", "width w=1 v=0 ab", "31", "width w=1 v=2 bb", "45", "width w=4 v=0 ab", "20", "width v=0 w=1/2 b", "21",
                  "width v=0 w=0 -", "0", "draw v=0 w=0 a", "0,0 8,0 8,4 | 10", "draw w=0 v=0 ab", "0,0 8,0 8,4; 10,1; 11,5 19,5 19,9 | 29",
                  "draw v=2 w=4 ba", "2,0 8,0 9,5; 12,0 18,0 19,5 | 20", "draw v=1 w=1 a", "1/2,0 8,0 33/4,17/4 | 10", "draw v=0 w=0 c", "- | 5", "draw v=0 w=0 -", "- | 0")
        desk = loaded("load letter a 1/2 / round 0,0")
        self.says(desk, "width a", "1/2", "draw aa", "0,0; 1/2,0 | 1", "draw -", "- | 0", "width -", "0")

    def test_places(self):
        self.says(loaded(), "places a", "v 0 2, w 0 1 4", "places b", "v 0 2, w 0 1 4!", "places ab", "v 0 2, w 0 4!", "places cc", "v 0 2, w 0 4", "pin v 0", "ok",
                  "places b", "w 0 1 4!", "pin w 1", "ok", "places b", "-", "places bb", "-")

    def test_bounds(self):
        self.says(loaded(), "widest b", "24 near v=0 w=4", "narrowest b", "10 at v=0 w=4", "widest c", "5 at v=0 w=0", "wider b 24", "no", "narrower b 10", "no", "widest -", "0 at v=0 w=0",
                  "wider - 0", "no", "pin w 0", "ok", "pin v 0", "ok", "widest ab", "29 at -", "wider ab 28", "-", "narrower ab 59/2", "-", "narrower ab 29", "no")
        desk = loaded()
        self.assertTrue(desk.design(read_setting(desk.say("wider b 23")), "b")[1].top > 23)
        self.assertTrue(desk.design(read_setting(desk.say("narrower b 21")), "b")[1].under(Ratio(21)))

    def test_rising_lines_and_clear(self):
        desk = loaded()
        self.says(desk, "rises w a", "yes", "rises v ab", "yes", "line 22 w v=0 w=3 b", "[1 1]", "line 10 w w=0 v=1 b", "[4 4]", "line 10 w v=0 w=0 a", "[0 4]", "line 7 w v=0 w=0 a", "-",
                  "line 0 v v=0 w=0 -", "[0 2]", "clear 2 a", "yes", "clear 2 ac", "yes", "clear -9 aa", "yes")
        first, second = [read_setting(text) for text in desk.say("rises w b").split(" > ")]
        self.assertTrue(first["w"].under(second["w"]) and desk.design(second, "b")[1].under(desk.design(first, "b")[1]))
        setting, _, index = desk.say("clear 3 caa").rpartition(" ")
        self.assertEqual(index, "1")
        self.assertEqual(read_setting(setting).names, ("v", "w"))
        desk = loaded("load axis w 0 0 4 / letter a 1 / letter b 2 / swap a>b in w:1..2 / swap a>b in w:4..4")
        self.says(desk, "line 1 w w=0 a", "[0 1), (2 4)", "line 2 w w=0 a", "[1 2], [4 4]", "line 3 w w=0 a", "-", "pin w 0", "ok", "clear 1 aa", "yes")
        self.says(loaded("load letter a 1 / round 0,0"), "clear 1 aaa", "yes", "clear 2 aaa", "- 0")

    def test_keep_join_and_alike(self):
        desk = loaded()
        self.says(desk, "keep a", "ok", "alike a", "alike", "plain", "ok", "alike a", "alike", "flatten b", "ok", "alike a", "alike", "leave c", "ok", "alike a", "letters c")
        self.same(desk.depth, 4)
        self.says(desk, "load axis w 0 0 1 / letter a 10 / wide 4 w:0..1..1", "ok", "keep b", "ok", "load axis w 0 1 1 / letter a 14 / wide -4 w:0..0..1", "ok", "alike b", "alike",
                  "load axis w 0 0 1 / letter a 10 / wide 5 w:0..1..1", "ok")
        setting = desk.say("alike b").split(" ")
        self.assertEqual((setting[0], setting[2]), ("unlike", "a"))
        self.assertTrue(setting[1] != "w=0")
        # One that was kept by this name goes.
        self.says(desk, "keep b", "ok", "alike b", "alike", "load letter a 1", "ok", "keep c", "ok", "load letter a 2", "ok", "alike c", "unlike - a",
                  "load letter x 2 / pair xx 1", "ok", "alike c", "letters a", "join c", "ok", "letters", "ax", "show", "letter a 1 / letter x 2 / pair xx 1")
        self.same(desk.design, read_design("letter x 2\npair xx 1").joined(read_design("letter a 1")))
        self.refused(InvalidJoin("a"), desk.say, "join c")
        self.refused(NotOneRoom(), desk.say, "alike a")
        self.refused(UnknownCommand("join"), desk.say, "join d")
        self.refused(UnknownCommand("alike"), desk.say, "alike d")

    def test_unlike_by_a_pair(self):
        desk = loaded("load axis w 0 0 1 / letter a 1 / letter b 1 / pair ab 2")
        self.says(desk, "keep k", "ok", "load axis w 0 0 1 / letter a 1 / letter b 1 / pair ab 2 / swap a>a in w:0..0", "ok", "alike k", "alike",
                  "load axis w 0 0 1 / letter a 1 / letter b 1 / pair ab 2 / shift 1 w:0..1..1", "ok")
        word, setting, text = desk.say("alike k").split(" ")
        self.assertEqual((word, text), ("unlike", "ab"))
        self.assertTrue(check_unlike(desk.design, read_design("axis w 0 0 1\nletter a 1\nletter b 1\npair ab 2"), read_setting(setting), text))

    def test_kept_designs_stay_when_changes_are_undone(self):
        desk = loaded()
        self.says(desk, "pin v 1", "ok", "keep a", "ok", "undo", "ok", "undo", "ok", SMALL.replace("a>a", "a>a in w:0..0"), "ok", "load letter z 1", "ok")
        self.refused(NotOneRoom(), desk.say, "alike a")
        self.says(desk, "join a", "ok", "letters", "abcz", "undo", "ok", "letters", "z", "undo", "ok", "letters", "a")

    def test_undo(self):
        desk = Desk()
        self.refused(NothingToUndo(), desk.say, "undo")
        designs = [None]
        for line in (LOAD, "home w 1", "plain", "sparse", "flatten b", "leave c", "cut w 1 3", "pin w 2", SMALL, "plain", "home w 1"):
            self.says(desk, line, "ok")
            designs.append(desk.design)
            self.same(desk.depth, len(designs) - 1)
        for design in reversed(designs[:-1]):
            self.says(desk, "undo", "ok")
            self.same(desk.design, design)
        self.assertIs(desk.design, None)
        self.refused(NothingToUndo(), desk.say, "undo")
        self.refused(UnknownCommand("show"), desk.say, "show")
        # A change behind some that were taken back.
        self.says(desk, LOAD, "ok", "plain", "ok", "undo", "ok", "leave c", "ok", "undo", "ok")
        self.same((desk.design, desk.depth), (read_design(FACE), 1))

    def test_changes_that_leave_the_design_as_it_is(self):
        desk = loaded()
        for number, line in enumerate(("plain", "plain", "cut v 0 2", "home v 0", "flatten a", "sparse", "sparse", LOAD, LOAD), 2):
            self.says(desk, line, "ok")
            self.same(desk.depth, number)
        for line in QUESTIONS + ("keep a", "alike a"):
            desk.say(line)
            self.same(desk.depth, 10)

    def test_random_designs(self):
        for seed in range(15):
            maker = Maker(seed)
            design = maker.design(names=("w", "wt")[seed % 2], letters="abc")
            other = renamed(Maker(seed + 50).design(names="q", letters="ab"), 10)
            desk = loaded("load " + " / ".join(design_text(other).split("\n")))
            self.says(desk, "keep o", "ok", "load " + " / ".join(design_text(design).split("\n")), "ok")
            self.same(desk.design, design)
            self.says(desk, "join o", "ok", "show", " / ".join(design_text(design.joined(other)).split("\n")))
            setting, text = maker.setting(desk.design.axes), maker.text("abckl")
            self.assertEqual(desk.say(f"width {setting} {text or '-'}"), str(design.joined(other)(setting, text)[1]))


class WrongLines(Case):
    def test_any_value(self):
        for desk in (Desk(), loaded()):
            for value in odd_values():
                if value == "letters":
                    continue
                if not isinstance(value, str) or value == "":
                    self.refused(UnknownCommand(""), desk.say, value)
                    self.refused(UnknownCommand(""), desk.asked, value)
                else:
                    self.refused(UnknownCommand(value.split(" ")[0]), desk.say, value)

    def test_without_a_design(self):
        desk = Desk()
        for line in (*CHANGES, *QUESTIONS, "keep a", "join a", "alike a", "flatten 7", "width x x x"):
            self.refused(UnknownCommand(line.split(" ")[0]), desk.say, line)
        self.refused(NothingToUndo(), desk.say, "undo")
        self.refused(UnknownCommand("undo"), desk.say, "undo 1")
        self.refused(UnknownCommand("load"), desk.say, "load")
        self.refused(InvalidText(0, 0), desk.say, "load ")
        self.refused(InvalidDesign("letters"), desk.say, "load axis w 0 0 1")
        self.assertIs(desk.design, None)

    def test_first_words(self):
        desk = loaded()
        for line, word in ((" ", ""), (" show", ""), ("Show", "Show"), ("show\n", "show\n"), ("shows", "shows"), ("DESIGN", "DESIGN"), ("\nshow", "\nshow"),
                           ("undo\nundo", "undo\nundo"), ("quit now", "quit"), ("load", "load"), ("load\n", "load\n")):
            self.refused(UnknownCommand(word), desk.say, line)

    def test_another_number_of_words(self):
        desk = loaded()
        for line in (*CHANGES, *QUESTIONS, "keep a", "join a", "alike a", "undo"):
            words = line.split(" ")
            if words[0] not in ("width", "draw", "line", "cut"):
                for wrong in (words + ["x"], words + [""], words + ["1", "2"], words[:-1] if len(words) > 1 else words + ["1"]):
                    self.refused(UnknownCommand(words[0]), desk.say, " ".join(wrong))
        for line in ("cut w 1", "cut w", "cut", "cut w 1 2 3 4", "cut  ", "width", "draw", "line", "line 1", "line 1 w"):
            self.refused(UnknownCommand(line.split(" ")[0]), desk.say, line)

    def test_each_word_wrong(self):
        desk = loaded()
        self.assertEqual(desk.say("keep a"), "ok")
        forms = {"axis": ("W", "1", "toolongname", "self", "w=1", "-"), "number": ("x", "1.5", "2/4", "+1", "01", "-", "1/0", "1,2", "1" * 61),
                 "letters": ("A", "a1", "-", "a,b"), "key": ("A", "ab", "1", "-"), "text": ("A", "a1", "--", "a-"), "thing": ("A", "abc", "-", "a1"),
                 "place": ("w", "w=", "w=x", "W=1", "=1", "w=1..2", "w=1=2", "toolongname=1", "self=1")}
        for line, told in (("cut w 1 3", "axis number number"), ("cut w 1 2 3", "axis number number number"), ("pin w 1", "axis number"), ("home w 1", "axis number"),
                           ("flatten b", "letters"), ("leave c", "letters"), ("keep a", "key"), ("join a", "key"), ("alike a", "key"), ("width v=0 w=1 ab", "place place text"),
                           ("width ab", "text"), ("draw w=1 v=0 ab", "place place text"), ("places b", "thing"), ("widest ab", "text"), ("narrowest ab", "text"),
                           ("wider ab 3", "text number"), ("narrower ab 3", "text number"), ("rises w ab", "axis text"),
                           ("line 10 v v=1 w=1 a", "number axis place place text"), ("line 10 v a", "number axis text"), ("clear 2 ab", "number text")):
            words = line.split(" ")
            for index, form in enumerate(told.split(" "), 1):
                for wrong in (*forms[form], "", words[index] + "\n"):
                    changed = [*words[:index], wrong, *words[index + 1:]]
                    self.refused(InvalidText(0, index), desk.say, " ".join(changed))
                    # The first wrong word counts.
                    self.refused(InvalidText(0, index), desk.say, " ".join([*changed[:index + 1], *["?" for _ in changed[index + 1:]]]))
        # A name that stood in the setting before.
        for line, index in (("width w=0 v=0 w=x ab", 3), ("width w=0 w=0 ab", 2), ("line 1 w v=0 v=0 a", 4), ("draw v=0 w=0 u=0 w=1 A", 4)):
            self.refused(InvalidText(0, index), desk.say, line)
        self.assertEqual((desk.say("show"), desk.depth), (LOAD.removeprefix("load "), 1))

    def test_load(self):
        for desk in (Desk(), loaded()):
            for line, at, word in (("load ", 0, 0), ("load  ", 0, 0), ("load x", 0, 0), ("load letter a", 0, 2), ("load letter a 1 / ", 1, 0), ("load  / letter a 1", 0, 0),
                                   ("load letter a 1 / round", 1, 1), ("load letter a 1\nround 0,0", 0, 2), ("load letter a 1 / round 0,0\n", 1, 1),
                                   ("load letter a 1 /", 0, 3), ("load letter a 1 /  / round 0,0", 1, 0), ("load letter a 1 / letter  b 1", 1, 1),
                                   ("load / letter a 1", 0, 0), ("load axis w 0 1 / letter", 0, 4)):
                self.refused(InvalidText(at, word), desk.say, line)
            self.refused(InvalidTent(), desk.say, "load axis w 0 0 1 / letter a 1 / wide 1 w:1..0..1")
            self.refused(InvalidDesign("swaps"), desk.say, "load letter a 1 / swap a>b")

    def test_errors_of_classes_and_functions(self):
        desk = loaded()
        desk.say("keep a")
        ahead = kind_of(desk)
        for line, error in (
                ("cut u 0 1", UnknownAxis("u")), ("cut u 1 0", InvalidRoom("u")), ("cut w 3 3", InvalidRoom("w")), ("cut w 0 4 3", InvalidRoom("w")), ("cut w 0 5", InvalidRoom("w")),
                ("pin u 0", UnknownAxis("u")), ("pin w 5", InvalidRoom("w")), ("home u 9", UnknownAxis("u")), ("home w 5", InvalidRoom("w")), ("home w -1/2", InvalidRoom("w")),
                ("flatten axb", UnknownLetter("x")), ("leave xa", UnknownLetter("x")), ("leave a", Needed("a")), ("leave abc", InvalidDesign("letters")), ("join a", InvalidJoin("a")),
                ("width ab", InvalidSetting("v")), ("width v=0 ab", InvalidSetting("w")), ("width v=0 w=5 ax", InvalidSetting("w")), ("width u=0 ab", UnknownAxis("u")),
                ("width v=0 w=0 ax", UnknownLetter("x")), ("draw v=0 w=0 xy", UnknownLetter("x")), ("draw -", InvalidSetting("v")), ("places x", UnknownLetter("x")),
                ("places ax", UnknownLetter("ax")), ("widest x", UnknownLetter("x")), ("narrowest bx", UnknownLetter("x")), ("wider x 1", UnknownLetter("x")), ("narrower x 1", UnknownLetter("x")),
                ("rises u x", UnknownAxis("u")), ("rises w x", UnknownLetter("x")), ("line 1 u x", UnknownAxis("u")), ("line 1 w x", InvalidSetting("v")), ("line 1 w v=0 w=0 x", UnknownLetter("x")),
                ("clear 1 x", UnknownLetter("x"))):
            self.refused(error, desk.say, line)
            self.assertEqual(kind_of(desk), ahead)

    def test_unknown_keys_come_behind_wrong_words(self):
        desk = loaded()
        for word in ("join", "alike"):
            self.refused(InvalidText(0, 1), desk.say, f"{word} X")
            self.refused(UnknownCommand(word), desk.say, f"{word} x")
            self.refused(UnknownCommand(word), desk.say, f"{word} x y")


class Trials(Case):
    def test_tried(self):
        desk = loaded()
        ahead = kind_of(desk)
        with desk.tried("letters", "leave c", "letters", "keep k") as answers:
            self.same(answers, ["abc", "ok", "ab", "ok"])
            self.same((desk.depth, desk.say("letters"), desk.say("alike k")), (2, "ab", "alike"))
            desk.say("leave b")
            desk.say("undo")
            desk.say("undo")
            desk.say("undo")
            self.assertIs(desk.design, None)
        self.assertEqual(kind_of(desk), ahead)
        self.refused(UnknownCommand("alike"), desk.say, "alike k")
        answers.clear()
        with desk.tried() as answers:
            self.same(answers, [])
            desk.say("pin v 0")
        self.assertEqual(kind_of(desk), ahead)

    def test_lines_are_carried_out_when_the_block_begins(self):
        desk = loaded()
        trial = desk.tried("leave c")
        self.same(desk.say("letters"), "abc")
        desk.say("pin v 0")
        ahead = kind_of(desk)
        for _ in range(2):
            with trial as answers:
                self.same((answers, desk.say("letters"), desk.say("axes")), (["ok"], "ab", "w 0 0 4"))
            self.assertEqual(kind_of(desk), ahead)

    def test_within_one_another(self):
        desk = loaded()
        ahead = kind_of(desk)
        with desk.tried("pin v 0", "keep a"):
            within = kind_of(desk)
            with desk.tried("leave c", "keep a") as answers:
                self.same((answers, desk.depth), (["ok", "ok"], 3))
                self.same(desk.asked("letters", "leave b", "letters", "undo", "letters", "alike a"), ["ab", "ok", "a", "ok", "ab", "alike"])
                self.same(desk.say("letters"), "ab")
            self.assertEqual(kind_of(desk), within)
            self.same(desk.say("alike a"), "alike")
        self.assertEqual(kind_of(desk), ahead)

    def test_an_error_in_the_block(self):
        desk = loaded()
        ahead = kind_of(desk)
        for error in (KeyError("x"), ValueError(), ZeroDivisionError(), KeyboardInterrupt()):
            with self.assertRaises(type(error)) as caught:
                with desk.tried("leave c", "keep a"):
                    desk.say("plain")
                    raise error
            self.assertIs(caught.exception, error)
            self.assertEqual(kind_of(desk), ahead)
        with self.assertRaises(UnknownAxis):
            with desk.tried("leave c"):
                desk.say("pin u 0")
        self.assertEqual(kind_of(desk), ahead)

    def test_an_error_of_a_line(self):
        desk = loaded()
        ahead = kind_of(desk)
        for line, error in (("leave x", UnknownLetter("x")), ("nothing", UnknownCommand("nothing")), (None, UnknownCommand("")), ("pin w x", InvalidText(0, 2)),
                            ("pin u 0", UnknownAxis("u")), (["letters"], UnknownCommand(""))):
            self.refused(error, desk.asked, "leave c", "keep a", line, "letters")
            self.assertEqual(kind_of(desk), ahead)
            trial = desk.tried("leave c", line)
            self.refused(error, trial.__enter__)
            self.assertEqual(kind_of(desk), ahead)

    def test_asked(self):
        desk = Desk()
        self.same(desk.asked(), [])
        self.same(desk.asked(SMALL, "letters", "pin w 1", "widest a", "keep z", "undo", "undo"), ["ok", "a", "ok", "14 at -", "ok", "ok", "ok"])
        self.assertIs(desk.design, None)
        self.same(desk.depth, 0)
        desk = loaded()
        desk.say("keep k")
        ahead = kind_of(desk)
        answers = desk.asked("leave c", "alike k", "undo", "alike k")
        self.same(answers, ["ok", "letters c", "ok", "alike"])
        self.assertEqual(kind_of(desk), ahead)

    def test_two_desks(self):
        one, other = loaded(), loaded(SMALL)
        with one.tried("leave c"), other.tried("undo"):
            self.same(one.say("letters"), "ab")
            self.assertIs(other.design, None)
        self.same((one.say("letters"), other.say("letters")), ("abc", "a"))

    def test_the_design_is_alike_to_what_is_done_by_hand(self):
        desk = loaded()
        design = read_design(FACE)
        desk.say("flatten b")
        desk.say("cut w 1 4")
        self.assertEqual(alike(desk.design, flattened(design, "b").cut(Room(w=(1, 4))))[0], "alike")
        # The axes of the design belong to the caller.
        desk.design.axes[0].bend = [(0, 0), (2, 2)]
        self.assertEqual(desk.design.axes, [Axis("v", least=0, home=0, most=2), Axis("w", least=1, home=1, most=4)])
