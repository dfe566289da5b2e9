"""Texts written and read: the point [23], the texts and the reader module."""

from betweenfaces.axes import Axis
from betweenfaces.designs import Design
from betweenfaces.errors import InvalidAxis, InvalidDesign, InvalidLetter, InvalidRoom, InvalidTent, InvalidText
from betweenfaces.letters import Letter
from betweenfaces.plain import plain
from betweenfaces.quantities import Quantity
from betweenfaces.ratios import Ratio
from betweenfaces.reader import read_axis, read_design, read_room, read_setting
from betweenfaces.rooms import Room
from betweenfaces.rows import FullRow, SparseRow
from betweenfaces.settings import Setting
from betweenfaces.sparse import sparse
from betweenfaces.tents import Reach, Tent
from betweenfaces.texts import axis_text, design_text, room_text, setting_text
from tests.examples import HALF, drawn_design, nested_design
from tests.makers import Maker
from tests.values import Case, kind_of, odd_values

LONG = "7" * 60
FULL_TEXT = """axis v -1 0 1/2
axis w 0 1 4 bend 0:0 1:1 2:3/2 4:4
letter a -5/2
letter b 10
wide 4 v:0..1/2..1/2*w:1..4..4
wide -1/3 w:0..0..1
round 0,0 8,1/2
round -1,-1
part a 2,5
part c 0,0
full w:1..2..4 1,0 0,0 0,1/3 2,2 0,0
sparse v:-1..-1..0
sparse v:-1..-1..0*w:0..0..1 0=1,0 3=-1/2,7
letter c 0
full w:1..2..4
pair ab -1
pair bb 3
shift 2 w:1..2..4
swap b>a c>b in v:0..1/2 w:0..0
swap a>a"""


def full_design():
    """The design of this text."""
    v, w = Axis("v", least=-1, home=0, most=HALF), Axis("w", least=0, home=1, most=4, bend=[(0, 0), (1, 1), (2, Ratio(3, 2)), (4, 4)])
    up, low, left = Reach(w=Tent(1, 2, 4)), Tent(0, 0, 1), Tent(-1, -1, 0)
    wide = Quantity(10, (Reach(v=Tent(0, HALF, HALF), w=Tent(1, 4, 4)), 4), (Reach(w=low), Ratio(-1, 3)))
    rows = [FullRow(up, [(1, 0), (0, 0), (0, Ratio(1, 3)), (2, 2), (0, 0)]), SparseRow(Reach(v=left), {}),
            SparseRow(Reach(w=low, v=left), {3: (Ratio(-1, 2), 7), 0: (1, 0)})]
    b = Letter(wide, [(0, 0), (8, HALF)], [(-1, -1)], parts=[("a", 2, 5), ("c", 0, 0)], rows=rows)
    letters = {"c": Letter(Quantity(0), rows=[FullRow(up, [])]), "b": b, "a": Letter(Quantity(Ratio(-5, 2)))}
    swaps = [({"w": (0, 0), "v": (0, HALF)}, {"c": "b", "b": "a"}), ({}, {"a": "a"})]
    return Design([w, v], letters, pairs={"bb": Quantity(3, (up, 2)), "ab": Quantity(-1)}, swaps=swaps)


class Written(Case):
    def test_a_design_with_everything(self):
        design = full_design()
        ahead = kind_of(design)
        self.assertEqual(design_text(design), FULL_TEXT)
        self.assertEqual(design_text(design=design), FULL_TEXT)
        self.assertEqual(kind_of(design), ahead)
        self.same(read_design(FULL_TEXT), design)
        self.same(read_design(text=FULL_TEXT), design)

    def test_axes_settings_and_rooms(self):
        axis = Axis("wt", least=100, home=400, most=900, bend=[(100, 100), (400, 400), (500, Ratio(1201, 3)), (900, 900)])
        self.assertEqual(axis_text(axis), "axis wt 100 400 900 bend 100:100 400:400 500:1201/3 900:900")
        self.assertEqual(axis_text(axis=Axis("w", least=-HALF, home=0, most=1)), "axis w -1/2 0 1")
        self.assertEqual(setting_text(Setting(wt=400, wd=HALF)), "wd=1/2 wt=400")
        self.assertEqual((setting_text(setting=Setting()), room_text(room=Room())), ("", ""))
        room = Room(wt=(100, 400, 900), wd=1, a=(-1, HALF))
        self.assertEqual(room_text(room), "a=-1..1/2 wd=1 wt=100..400..900")
        for value, write, read in ((axis, axis_text, read_axis), (room, room_text, read_room), (Setting(a=1, b=HALF), setting_text, read_setting),
                                   (Setting(), setting_text, read_setting), (Room(), room_text, read_room)):
            self.same(read(write(value)), value)
            self.same(type(value).read(write(value)), value)
            self.same(read(text=str(value)), value)

    def test_small_designs(self):
        self.assertEqual(design_text(Design([], {"x": Letter(Quantity(1))})), "letter x 1")
        self.assertEqual(design_text(drawn_design()), "axis w 0 0 1\nletter a 10\nround 0,0 8,0\nletter b 10\nwide 4 w:0..1..1\n"
                         "round 0,0\npart a 2,5\npair ab -1\nswap b>a in w:1..1")

    def test_long_numbers_are_written_but_not_read(self):
        for number, right in ((10 ** 60 - 3, True), (10 ** 60, False), (-(10 ** 60) + 3, True), (-(10 ** 60), False)):
            design = Design([], {"a": Letter(Quantity(Ratio(number, 7)))})
            self.assertEqual(design_text(design), f"letter a {number}/7")
            if right:
                self.same(read_design(design_text(design)), design)
            else:
                self.refused(InvalidText(0, 2), read_design, design_text(design))
                self.refused(InvalidText(0, 1), read_setting, f"a=1 w={number}")
        self.refused(InvalidText(0, 2), read_design, "letter a 1/" + "1" * 61)
        self.same(read_setting("w=1/" + LONG), Setting(w=Ratio(1, int(LONG))))

    def test_random_designs_there_and_back_again(self):
        for seed in range(80):
            design = Maker(seed).design(names=("", "w", "wt", "xyz")[seed % 4])
            for told in (design, plain(design), sparse(design)):
                text = design_text(told)
                self.assertFalse(text.endswith("\n") or " \n" in text or "  " in text or text.endswith(" "))
                self.same(read_design(text), told)
                self.assertEqual(design_text(read_design(text)), text)
        self.same(read_design(design_text(nested_design())), nested_design())


class Freedom(Case):
    def test_lines_and_words_in_other_orders(self):
        text = """axis w 0 1 4 bend 0:0 1:1 2:3/2 4:4
axis v -1 0 1/2
letter c 0
full w:1..2..4
letter b 10
sparse v:-1..-1..0
full w:1..2..4 1,0 0,0 0,1/3 2,2 0,0
part a 2,5
round 0,0 8,1/2
wide 4 w:1..4..4*v:0..1/2..1/2
round -1,-1
wide -1/3 w:0..0..1
part c 0,0
sparse w:0..0..1*v:-1..-1..0 3=-1/2,7 0=1,0
letter a -5/2
pair bb 3
shift 2 w:1..2..4
pair ab -1
swap c>b b>a in w:0..0 v:0..1/2
swap a>a"""
        want = full_design()
        rows = want["b"].rows
        swapped = Letter.of(want["b"].width, want["b"].rounds, want["b"].parts, [rows[1], rows[0], rows[2]])
        letters = {"a": want["a"], "b": swapped, "c": want["c"]}
        self.same(read_design(text), Design(want.axes, letters, pairs=want.pairs, swaps=want.swaps))
        self.same(read_setting("wt=1 wd=2"), Setting(wd=2, wt=1))
        self.same(read_room("wt=1..2 b=0 a=1..2..3"), Room(a=(1, 2, 3), b=0, wt=(1, 2)))

    def test_bends_lie_in_their_order(self):
        self.refused(InvalidAxis("bend"), read_axis, "axis w 0 0 4 bend 4:4 0:0")


class WrongTexts(Case):
    def wrong(self, text, line, word):
        self.refused(InvalidText(line, word), read_design, text)

    def test_the_examples_of_the_document(self):
        self.refused(InvalidText(0, 1), read_room, "wt=1..2 wt=3")
        self.refused(InvalidText(0, 4), read_axis, "axis wt 0 1")
        self.wrong("axis wt 0 0 1\nround 0,0", 1, 0)

    def test_any_value(self):
        for value in odd_values():
            if not isinstance(value, str):
                for read in (read_axis, read_setting, read_room, read_design):
                    self.refused(InvalidText(0, 0), read, value)
            elif value not in ("", "w=1"):
                self.refused(InvalidText(0, 0), read_setting, value)
                self.refused(InvalidText(0, 0), read_room, value)
        self.refused(InvalidText(0, 0), read_axis, "")
        self.refused(InvalidText(0, 0), read_design, "")
        for value in odd_values():
            if isinstance(value, str) and value != "axis w 0 0 1":
                self.wrong(value, 0, 0)

    def test_settings_and_rooms(self):
        for read in (read_setting, read_room):
            for text, word in ((" ", 0), ("w=1 ", 1), (" w=1", 0), ("w=1  v=2", 1), ("w=1\n", 0), ("w=1\nv=2", 0), ("w=1 v", 1), ("w=1 v=", 1),
                               ("w=1 =2", 1), ("w=1 V=2", 1), ("w=1 self=2", 1), ("w=1 toolongname=2", 1), ("w=1 v=x", 1), ("w=1 v=2/4", 1),
                               ("w=1 v=+1", 1), ("w=1 v=01", 1), ("w=1 v=1/0", 1), ("w=1 v=-0", 1), ("w=1 v=1=2", 1), ("w=1 v=1..", 1),
                               ("w=1 v=1..2..3..4", 1), ("w=1 v=1.2", 1), ("w=1 u=2 w=1 x", 2), ("w=1 v=" + "1" * 61, 1), ("w=1,v=2", 0), ("w=1 w=x", 1)):
                self.refused(InvalidText(0, word), read, text)
        self.refused(InvalidText(0, 0), read_setting, "w=1..2")
        # In what order the numbers are, the classes look at.
        self.refused(InvalidRoom("w"), read_room, "w=2..1 v=1")
        self.refused(InvalidRoom("v"), read_room, "w=2..1 v=1..1")
        self.refused(InvalidText(0, 1), read_room, "w=2..1 x")
        self.refused(InvalidRoom("w"), read_room, "w=1..4..3")

    def test_each_word_of_each_line(self):
        letter = "axis w 0 0 4\nletter a 1"
        for head, line, wrong in (
                ("axis w 0 0 4", "axis v 0 0 4 bend 0:0 4:4", "0 Axis,1 V,1 self,2 x,3 x,3 0:0,4 2/4,5 bent,5 0:0,6 0:0:0,6 0;0,7 4,7 bend"),
                (letter, "letter b 1", "0 lettre,1 B,1 bb,1 9,1 1,2 x,2 2/4,2 b"),
                (letter, "wide 1 w:0..4..4", "0 wider,1 x,1 w:0..4..4,2 w:0..4,2 w:0..4..4..4,2 w,2 w:,2 :0..4..4,2 w:0..4..4*,2 *w:0..4..4"),
                (letter, "wide 1 w:0..4..4*v:0..1..1", "2 w:0..4..4*w:0..1..1,2 w:0..4..4*v,2 W:0..4..4,2 self:0..1..1,2 w:0..4..4+v:0..1..1"),
                (letter, "part a 1", "2 1,2 x,1 ab,1 A"),
                (letter, "pair ab 1", "0 pairs,1 a,1 aba,1 aB,1 a1,2 x,2 w:0..4..4"),
                (letter, "swap a>b b>a in w:0..4 v:1..1", "0 swaps,1 a,1 a>bb,1 A>b,1 a>B,1 a<b,1 in,1 aab,2 a>a,2 b,3 on,3 a>b,4 w,4 w:0,4 w:0..1..2,"
                 "4 W:0..1,4 w=0..4,4 in,5 w:0..4,5 v:1..x,5 in")):
            for told in wrong.split(","):
                at, word = told.split(" ")
                self.changed(head, line, int(at), word)
        # Words with commas of their own.
        for line, wrong in (("round 0,0 1,1", ((0, "rounds"), (1, "0"), (1, "0,0,0"), (1, "0;0"), (1, ",0"), (2, "1,"), (2, "1,,1"), (2, "1,2/2"))),
                            ("part a 1,1", ((0, "parts"), (2, "1"), (2, "1,1,1"), (2, "a"))),
                            ("full w:0..4..4 1,1 2,2", ((0, "fuller"), (1, "1,1"), (1, "w:0..4..04"), (2, "1"), (3, "2,2,2"), (3, "0=1,1"))),
                            ("sparse w:0..4..4 0=1,1 12=2,2", ((0, "sparser"), (1, "0=1,1"), (2, "1,1"), (2, "01=1,1"), (2, "-1=1,1"), (2, "0=1"), (3, "0=1,1"),
                             (3, "1/2=1,1"), (3, "x=1,1"), (3, "=1,1"), (3, "12=2=2"), (3, "12=2,2,2"), (3, "1" * 61 + "=1,1")))):
            for at, word in wrong:
                self.changed(letter, line, at, word)
            parts = line.split(" ")
            for index in range(len(parts)):
                for piece in ("", " ", parts[index] + "\t", "?"):
                    self.changed(letter, line, index, piece)

    def changed(self, head, line, at, word):
        """A line with another word at an index, behind some right ones, is wrong at this index."""
        words = line.split(" ")
        words[at] = word
        self.wrong(head + "\n" + " ".join(words), len(head.split("\n")), at)

    def test_words_missing_and_too_many(self):
        head = "axis w 0 0 4\nletter a 1\n"
        for line, least in (("axis v 0 0 4", 5), ("letter b 1", 3), ("wide 1 w:0..4..4", 3), ("round 0,0", 2), ("part a 1,1", 3),
                            ("full w:0..4..4", 2), ("sparse w:0..4..4", 2), ("pair ab 1", 3), ("swap a>b", 2)):
            words = line.split(" ")
            for many in range(1, least):
                self.wrong(head + " ".join(words[:many]) if words[0] != "axis" else " ".join(words[:many]), 2 if words[0] != "axis" else 0, many)
                self.wrong(head + " ".join(words[:many]) + " ", 2, many if words[0] != "axis" else 0)
        for line in ("letter b 1", "wide 1 w:0..4..4", "part a 1,1", "pair ab 1"):
            for more in (" ", " 1", " x", "  "):
                self.wrong(f"{head}{line}{more}", 2, len(line.split(" ")))
        self.wrong("axis w 0 0 4 bend", 0, 6)
        self.wrong("axis w 0 0 4 bend ", 0, 6)
        self.wrong("axis w 0 0 4 4", 0, 5)
        self.wrong(head + "swap a>b in", 2, 3)
        self.wrong(head + "swap a>b in ", 2, 3)
        self.wrong(head + "swap a>b ", 2, 2)
        self.wrong(head + "shift 1 w:0..4..4", 2, 0)
        self.wrong(head + "pair aa 1\nshift", 3, 1)
        self.wrong(head + "pair aa 1\nshift 1", 3, 2)
        self.wrong(head + "pair aa 1\nshift 1 w:0..4..4 ", 3, 3)

    def test_names_letters_pairs_and_indexes_that_come_again(self):
        self.wrong("axis w 0 0 1\naxis v 0 0 1\naxis w x", 2, 1)
        self.wrong("letter a 1\nletter b 1\nround 0,0\nletter a", 3, 1)
        self.wrong("letter a 1\npair aa 1\npair ab 1\npair aa x", 3, 1)
        self.wrong("letter a 1\nsparse w:0..1..1 1=0,0 2=0,0 1=x", 1, 4)
        self.wrong("letter a 1\nswap a>a b>a a>x", 1, 3)
        self.wrong("letter a 1\nswap a>a in w:0..1 v:0..1 w:x", 1, 5)
        self.wrong("letter a 1\nwide 1 w:0..1..1*v:0..1..1*w:0..1..1 x", 1, 2)
        # A letter may come on the right again, a swap as a whole, and a pair of one letter twice.
        self.same(read_design("letter a 1\nletter b 2\npair aa 1\npair ab 1\nswap a>b b>b\nswap a>b b>b").swaps, [({}, {"a": "b", "b": "b"})] * 2)

    def test_lines_that_cannot_stand_there(self):
        lines = {"axis": "axis {} 0 0 1", "letter": "letter {} 1", "pair": "pair a{} 1", "swap": "swap a>{}"}
        order = list(lines)
        for at, before in enumerate(order):
            for behind in order[:at]:
                self.wrong(lines[before].format("a") + "\n" + lines[behind].format("b"), 1, 0)
                self.wrong(lines[before].format("a") + "\n" + lines[before].format("b") + "\n" + behind, 2, 0)
        for line in ("wide 1 w:0..1..1", "round 0,0", "part a 0,0", "full w:0..1..1", "sparse w:0..1..1"):
            self.wrong(line, 0, 0)
            for before in ("axis w 0 0 1", "letter a 1\npair aa 1", "letter a 1\npair aa 1\nshift 1 w:0..1..1", "letter a 1\nswap a>a"):
                self.wrong(f"{before}\n{line}", len(before.split("\n")), 0)
        for before in ("axis w 0 0 1", "letter a 1", "letter a 1\nround 0,0", "letter a 1\nswap a>a"):
            self.wrong(f"{before}\nshift 1 w:0..1..1", len(before.split("\n")), 0)
        for line in ("", " ", "x", "bend 0:0", "in w:0..1", "Letter a 1", "letter\ta 1", "# letter", "axis,w"):
            self.wrong(f"letter a 1\n{line}", 1, 0)
        self.wrong("letter a 1\n", 1, 0)
        self.wrong("\nletter a 1", 0, 0)
        self.wrong("letter a 1\n\nletter b 1", 1, 0)

    def test_the_first_of_two_wrong_words(self):
        self.wrong("letter a x\nletter b y z", 0, 2)
        self.wrong("letter a 1\nletter B y", 1, 1)
        self.wrong("letter a 1 x\n\n", 0, 3)

    def test_all_words_come_ahead_of_what_the_classes_refuse(self):
        bad = ("axis v 1 0 0", "axis w 0 0 1 bend 1:1 0:0", "letter a 1\nwide 1 w:1..0..1", "letter a 1\nfull w:0..1..1 0,0", "letter b 1\npart z 0,0")
        for text in bad:
            self.wrong(f"{text}\nletter c", len(text.split("\n")), 2)

    def test_the_classes_come_in_the_order_of_the_lines(self):
        axis, bend, order = "axis w 0 0 1", "axis v 0 0 1 bend 0:0", "axis v 1 0 0"
        for text, error in (
                (f"{bend}\n{order.replace('v', 'u')}", InvalidAxis("bend")), (f"{order}\n{bend.replace('v', 'u')}", InvalidAxis("order")),
                (f"{axis}\n{order}\nletter a 1\nwide 1 w:1..0..1", InvalidAxis("order")),
                (f"{axis}\nletter a 1\nwide 1 w:1..0..1\nfull w:0..1..1 0,0", InvalidTent()),
                (f"{axis}\nletter a 1\nfull w:0..1..1 0,0\nwide 1 w:1..1..1", InvalidTent()),
                (f"{axis}\nletter a 1\nfull w:0..1..1 0,0\nletter b 1\nwide 1 w:1..1..1", InvalidLetter("rows")),
                (f"{axis}\nletter a 1\nsparse w:0..1..1 1=0,0\nround 0,0\npair aa 1\nshift 1 w:1..0..2", InvalidLetter("rows")),
                (f"{axis}\nletter a 1\npair aa 1\nshift 1 w:1..0..2\nswap a>z", InvalidTent()),
                (f"{axis}\nletter a 1\npart z 0,0\npair az 1\nswap a>z", InvalidDesign("parts")),
                (f"{axis}\nletter a 1\npart a 0,0", InvalidDesign("parts")), (axis, InvalidDesign("letters")),
                (f"{axis}\nletter a 1\npair az 1\nswap a>z", InvalidDesign("pairs")), (f"{axis}\nletter a 1\nswap a>z", InvalidDesign("swaps")),
                (f"{axis}\nletter a 1\nswap a>a in v:0..1", InvalidDesign("swaps")), (f"{axis}\nletter a 1\nswap a>a in w:1..0", InvalidDesign("swaps")),
                (f"{axis}\nletter a 1\nswap a>a in w:0..2", InvalidDesign("swaps")), (f"{axis}\nletter a 1\nwide 1 v:0..1..1", InvalidDesign("reach")),
                (f"{axis}\nletter a 1\nfull w:0..1..2", InvalidDesign("reach")), ("pair ab 1", InvalidDesign("letters")),
                ("swap a>b", InvalidDesign("letters"))):
            self.refused(error, read_design, text)
        # A row may stand ahead of the points that it moves: the letter is looked at as a whole.
        self.assertEqual(len(read_design(f"{axis}\nletter a 1\nfull w:0..1..1 0,0\nround 0,0")["a"].rows), 1)
