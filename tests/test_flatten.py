"""Letters without parts: the points [11] and [21] and the flatten module."""

from betweenfaces.designs import Design
from betweenfaces.errors import UnknownLetter
from betweenfaces.flatten import flattened
from betweenfaces.letters import Letter
from betweenfaces.plain import plain
from betweenfaces.quantities import Quantity
from betweenfaces.ratios import Ratio
from betweenfaces.rows import FullRow, SparseRow
from betweenfaces.tents import Reach, Tent
from tests.drawn import in_ratios, inner_places, outline_at, picture_at, told
from tests.examples import HALF, UP, axis_w, flattening_design, nested_design
from tests.makers import Maker
from tests.test_cutting import some_room
from tests.values import Case, kind_of, odd_values


class Flattened(Case):
    def test_the_example_of_the_document(self):
        made = flattened(flattening_design())["d"]
        want = Letter(Quantity(30), [(5, 0), (15, 0), (15, 20)], rows=[FullRow(UP, [(2, 0), (2, 0), (2, 0)])])
        self.same(made, want)

    def test_random_designs(self):
        for seed in range(80):
            maker = Maker(seed)
            design = maker.design(names=("", "w", "wt", "xyz")[seed % 4], letters="abcde")
            names = maker.chance.sample("abcde", maker.chance.randint(0, 3))
            ahead = kind_of((design, names))
            made = flattened(design, *names)
            self.same(flattened(design, names), made)
            self.assertEqual(kind_of((design, names)), ahead)
            self.same(plain(made), made)
            self.same(flattened(plain(design), names), made)
            for name in design:
                flat = not names or name in names
                parts = () if flat else tuple(part for part, _, _ in design[name].parts)
                self.assertEqual(tuple(part for part, _, _ in made[name].parts), parts)
                self.assertEqual(made[name].width, plain(design)[name].width)
                if not flat:
                    self.equal(made[name], plain(design)[name])
            self.assertEqual((made.pairs, made.swaps), (plain(design).pairs, plain(design).swaps))
            for setting, text in [(maker.setting(design.axes), maker.text("abcde")) for _ in range(4)]:
                at = inner_places(design, told(setting))
                self.same(made(setting, text), in_ratios(picture_at(design, at, text)))

    def test_flattening_and_cutting_are_exchanged(self):
        for seed in range(40):
            maker = Maker(seed)
            design = maker.design(names=("w", "wt")[seed % 2])
            room = some_room(maker, design.axes)
            for names in ((), ("d",), ("b", "c")):
                self.same(flattened(design, *names).cut(room), flattened(design.cut(room), *names))

    def test_parts_four_deep(self):
        design = nested_design()
        made = flattened(design)
        self.assertEqual([len(made[name].rounds) for name in "abcde"], [1, 3, 7, 15, 31])
        at = {"w": told(design.homes)["w"]}
        self.assertEqual([list(points) for points in made["e"].rounds], in_ratios(outline_at(design, at, "e")))
        # All rows have one reach: so there is one row.
        self.assertEqual([len(made[name].rows) for name in "abcde"], [1, 1, 1, 1, 1])

    def test_some_names_and_lists(self):
        design = nested_design()
        for names, flat in (((), "abcde"), (([],), "abcde"), (([], []), "abcde"), (("c",), "ac"), (("c", []), "ac"), ((["c", "d"],), "acd"),
                            (("d", ["c", "d"], "d"), "acd"), (("a",), "a")):
            made = flattened(design, *names)
            self.assertEqual("".join(name for name in made if not made[name].parts), flat)

    def test_rows_of_parts_and_of_their_offsets(self):
        hill = Reach(w=Tent(0, HALF, 1))
        a = Letter(Quantity(0), [(0, 0), (4, 0), (8, 0)], rows=[SparseRow(hill, {0: (0, 0), 2: (8, 0)})])
        b = Letter(Quantity(0), [(1, 1)], parts=[("a", 10, 0), ("a", 20, 0)], rows=[FullRow(UP, [(1, 0), (2, 0), (0, 2)])])
        made = flattened(Design([axis_w()], {"a": a, "b": b}), "b")["b"]
        half = [(HALF, 0), (1, 0), (5, 0), (9, 0), (0, 1), (4, 1), (8, 1)]
        rows = [FullRow(Reach(w=Tent(0, HALF, 1)), half),
                FullRow(Reach(w=Tent(HALF, 1, 1)), [(1, 0), (2, 0), (2, 0), (2, 0), (0, 2), (0, 2), (0, 2)])]
        rounds = [[(1, 1)], [(10, 0), (14, 0), (18, 0)], [(20, 0), (24, 0), (28, 0)]]
        self.same(made, Letter(Quantity(0), *rounds, rows=rows))

    def test_swaps_do_not_count_for_parts(self):
        a, b = Letter(Quantity(1), [(0, 0)]), Letter(Quantity(2), [(9, 9), (8, 8)])
        c = Letter(Quantity(3), parts=[("a", 1, 1)])
        made = flattened(Design([], {"a": a, "b": b, "c": c}, swaps=[({}, {"a": "b"})]))
        self.same(made["c"].rounds, (((Ratio(1), Ratio(1)),),))
        self.assertEqual(made.swaps, [({}, {"a": "b"})])

    def test_the_first_wrong_name(self):
        design = flattening_design()
        for value in odd_values():
            if not isinstance(value, list) and value not in ("b", "d"):
                self.refused(UnknownLetter(value), flattened, design, value)
                self.refused(UnknownLetter(value), flattened, design, "b", ["d", value, "x"], "y")
        self.refused(UnknownLetter(["d"]), flattened, design, ["b", ["d"]])
        self.refused(UnknownLetter(("d",)), flattened, design, ("d",))
        self.refused(UnknownLetter("bd"), flattened, design, "bd", None)
