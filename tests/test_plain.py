"""Plain quantities, letters and designs: the points [18] to [22] and the plain module."""

from betweenfaces.axes import Axis
from betweenfaces.cells import value_at
from betweenfaces.designs import Design
from betweenfaces.errors import UnknownLetter
from betweenfaces.letters import Letter
from betweenfaces.plain import plain, plain_letter, plain_quantity
from betweenfaces.quantities import Quantity
from betweenfaces.ratios import Ratio
from betweenfaces.rows import FullRow, SparseRow
from betweenfaces.settings import Setting
from betweenfaces.tents import Reach, Tent
from tests.drawn import in_ratios, inner_place, inner_places, picture_at, quantity_at, told
from tests.examples import HALF, UP, axis_w, drawn_design, example_quantity
from tests.makers import Maker
from tests.plainly import plain_quantity_by_hand
from tests.values import Case, kind_of, odd_values

QUARTER = Ratio(1, 4)


def texts(quantity):
    return [str(quantity.home)] + [f"{reach} {delta}" for reach, delta in quantity.rows]


def axis_to_4(name="w", home=0, bend=()):
    return Axis(name, least=0, home=home, most=4, bend=bend)


class PlainQuantities(Case):
    def test_the_example_of_the_document(self):
        axis = Axis("a", least=0, home=0, most=1)
        self.assertEqual(texts(plain_quantity([axis], example_quantity())), ["100", "a:0..1/2..1 15", "a:1/2..1..1 50"])
        self.assertEqual(texts(plain_quantity(axes=[axis], quantity=Quantity(3))), ["3"])

    def test_random_quantities(self):
        for seed in range(150):
            maker = Maker(seed, steps=3 + seed % 2)
            axes = [maker.axis(name) for name in ("", "w", "wt", "xyz")[seed % 4]]
            quantity = maker.quantity(axes, rows=4)
            ahead = kind_of((axes, quantity))
            want = plain_quantity_by_hand(axes, quantity)
            for order in (axes, axes[::-1], tuple(axes)):
                self.same(plain_quantity(order, quantity), want)
            self.assertEqual(kind_of((axes, quantity)), ahead)
            bare = [Axis(axis.name, least=axis.least, home=axis.home, most=axis.most) for axis in axes]
            self.same(plain_quantity(bare, want), want)
            self.assertTrue(all(reach.fits(bare) for reach, _ in want.rows))
            for setting in [maker.setting(axes) for _ in range(4)]:
                inner = {axis.name: inner_place(axis, told(setting)[axis.name]) for axis in axes}
                self.assertEqual(want.at(setting), in_ratios(quantity_at(quantity, inner)))

    def test_rows_that_take_each_other_back(self):
        hill, up = Reach(w=Tent(0, 2, 4)), Reach(w=Tent(0, 4, 4))
        for rows, want in (([(hill, 1), (hill, -1)], ["5"]), ([(hill, 0)], ["5"]), ([(hill, 2), (hill, 3)], ["5", "w:0..2..4 5", ]),
                           ([(hill, 1), (up, 0)], ["5", "w:0..2..4 1"]), ([(up, 4)], ["5", "w:0..4..4 4"])):
            self.assertEqual(texts(plain_quantity([axis_to_4()], Quantity(5, *rows))), want)
        # Together these two rows are straight from 0 to 4: 2 at 2, 4 at 4.
        rows = [(hill, 2), (Reach(w=Tent(2, 4, 4)), 4)]
        self.assertEqual(texts(plain_quantity([axis_to_4()], Quantity(5, *rows))), ["5", "w:0..4..4 4"])

    def test_the_home_at_an_end_or_between(self):
        rows = [(Reach(w=Tent(0, 0, 1)), 3), (Reach(w=Tent(1, 2, 3)), 4)]
        self.assertEqual(texts(plain_quantity([axis_to_4(home=1)], Quantity(0, *rows))),
                         ["0", "w:0..0..1 3", "w:1..2..3 4"])
        rows = [(Reach(w=Tent(0, 0, 2)), 3), (Reach(w=Tent(1, 2, 4)), 4)]
        self.assertEqual(texts(plain_quantity([axis_to_4(home=4)], Quantity(0, *rows))),
                         ["0", "w:0..0..1 3", "w:0..1..2 3/2", "w:1..2..4 4"])

    def test_bends_are_taken_up(self):
        bend = [(0, 0), (1, 2), (3, 2), (4, 4)]
        self.assertEqual(texts(plain_quantity([axis_to_4(bend=bend)], Quantity(0, (Reach(w=Tent(0, 4, 4)), 4)))),
                         ["0", "w:0..1..3 2", "w:1..3..4 2", "w:3..4..4 4"])
        self.assertEqual(texts(plain_quantity([axis_to_4(bend=bend)], Quantity(0, (Reach(w=Tent(2, 3, 4)), 1)))),
                         ["0", "w:3..7/2..4 1"])
        self.assertEqual(texts(plain_quantity([axis_to_4(bend=bend)], Quantity(0))), ["0"])

    def test_rows_over_several_axes_are_ascending_by_their_peaks(self):
        axes = [axis_to_4("w", home=2), axis_to_4("v", home=4)]
        rows = [(Reach(v=Tent(0, 0, 4), w=Tent(2, 4, 4)), 1), (Reach(w=Tent(0, 0, 2)), 2), (Reach(v=Tent(0, 0, 4)), 3),
                (Reach(v=Tent(0, 0, 4), w=Tent(0, 0, 2)), 4)]
        self.assertEqual(texts(plain_quantity(axes, Quantity(0, *rows))),
                         ["0", "v:0..0..4*w:0..0..2 4", "v:0..0..4 3", "v:0..0..4*w:2..4..4 1", "w:0..0..2 2"])

    def test_a_turn_that_other_axes_hide(self):
        # The row turns at w 1 only where v is not at home.
        axes = [axis_to_4("w"), Axis("v", least=0, home=0, most=1)]
        rows = [(Reach(w=Tent(0, 1, 4), v=Tent(0, 1, 1)), 1), (Reach(w=Tent(0, 4, 4)), 4)]
        self.assertEqual(texts(plain_quantity(axes, Quantity(0, *rows))),
                         ["0", "w:0..1..4 1", "w:1..4..4 4", "v:0..1..1*w:0..1..4 1"])


class PlainLetters(Case):
    def test_all_own_functions_together(self):
        # x of the first point alone turns at 1, y of the part alone at 3; the width is looked at by itself.
        rows = [FullRow(Reach(w=Tent(0, 1, 4)), [(3, 0), (0, 0)]), SparseRow(Reach(w=Tent(0, 3, 4)), {1: (0, 2)})]
        wide = Quantity(9, (Reach(w=Tent(0, 2, 4)), 1), (Reach(w=Tent(0, 2, 4)), 0))
        a = Letter(wide, [(5, 5)], parts=[("b", 1, 1)], rows=rows)
        design = Design([axis_to_4()], {"a": a, "b": Letter(Quantity(1), [(0, 0)])})
        want = [FullRow(Reach(w=Tent(0, 1, 3)), [(3, 0), (0, Ratio(2, 3))]), FullRow(Reach(w=Tent(1, 3, 4)), [(1, 0), (0, 2)])]
        made = plain_letter(design, "a")
        self.same(made, Letter(Quantity(9, (Reach(w=Tent(0, 2, 4)), 1)), [(5, 5)], parts=[("b", 1, 1)], rows=want))
        self.equal(plain(design)["a"], made)
        self.equal(plain_letter(design=design, name="b"), design["b"])

    def test_sparse_rows_are_filled(self):
        bar = [(0, 0), (50, 0), (100, 0)]
        a = Letter(Quantity(0), bar, rows=[SparseRow(UP, {0: (0, 0), 2: (20, 0)})])
        want = Letter(Quantity(0), bar, rows=[FullRow(UP, [(0, 0), (10, 0), (20, 0)])])
        self.same(plain_letter(Design([axis_w()], {"a": a}), "a"), want)

    def test_rows_that_move_nothing_are_left_out(self):
        rows = [FullRow(UP, [(0, 0)]), SparseRow(UP, {}), FullRow(UP, [(1, 1)]), SparseRow(UP, {0: (-1, -1)})]
        a = Letter(Quantity(0), [(1, 1)], rows=rows)
        self.same(plain_letter(Design([axis_w()], {"a": a}), "a"), Letter(Quantity(0), [(1, 1)]))
        nothing = Letter(Quantity(0), rows=[FullRow(UP, [])])
        self.same(plain_letter(Design([axis_w()], {"a": nothing}), "a"), Letter(Quantity(0)))

    def test_wrong_letters(self):
        for value in odd_values():
            if value not in ("a", "b"):
                self.refused(UnknownLetter(value), plain_letter, drawn_design(), value)


class PlainDesigns(Case):
    def test_random_designs(self):
        for seed in range(80):
            maker = Maker(seed)
            design = maker.design(names=("", "w", "wt", "xyz")[seed % 4])
            ahead = kind_of(design)
            made = plain(design)
            self.assertEqual(kind_of(design), ahead)
            self.same(plain(made), made)
            self.equal(plain(made), made)
            self.assertEqual([axis.bend for axis in made.axes], [() for _ in made.axes])
            for name in design:
                self.equal(made[name], plain_letter(design, name))
                self.assertEqual(made[name].rounds, design[name].rounds)
                self.equal(made[name].width, plain_quantity(design.axes, design[name].width))
                self.assertTrue(all(isinstance(row, FullRow) for row in made[name].rows))
            want = {pair: plain_quantity(design.axes, shift) for pair, shift in design.pairs.items()}
            self.assertEqual(made.pairs, {pair: shift for pair, shift in want.items() if shift.home or shift.rows})
            for setting, text in [(maker.setting(design.axes), maker.text("abcd")) for _ in range(3)]:
                want = in_ratios(picture_at(design, inner_places(design, told(setting)), text))
                self.same(made(setting, text), want)

    def test_axes_lose_their_bends_and_pairs_of_0_go(self):
        axis = axis_to_4(home=1, bend=[(0, 0), (1, 1), (2, 3), (4, 4)])
        a = Letter(Quantity(0))
        pairs = {"aa": Quantity(0, (Reach(w=Tent(1, 4, 4)), 1), (Reach(w=Tent(1, 4, 4)), -1)), "ab": Quantity(0), "ba": Quantity(2),
                 "bb": Quantity(0, (Reach(w=Tent(0, 0, 1)), 1))}
        made = plain(Design([axis], {"a": a, "b": a}, pairs=pairs))
        self.assertEqual([str(axis) for axis in made.axes], ["axis w 0 1 4"])
        self.assertEqual(sorted(made.pairs), ["ba", "bb"])

    def test_boxes_are_taken_back_through_the_bend(self):
        axis = Axis("w", least=0, home=0, most=1, bend=[(0, 0), (QUARTER, HALF), (Ratio(3, 4), HALF), (1, 1)])
        letters = {"a": Letter(Quantity(0)), "b": Letter(Quantity(1))}
        boxes = [{"w": (HALF, 1)}, {"w": (HALF, HALF)}, {"w": (0, 1)}, {}, {"w": (0, 0)}, {"w": (0, HALF)}, {"w": (QUARTER, 1)}]
        design = Design([axis], letters, swaps=[(box, {"a": "b"}) for box in boxes])
        want = [{"w": ("1/4", "1")}, {"w": ("1/4", "3/4")}, {}, {}, {"w": ("0", "0")}, {"w": ("0", "3/4")}, {"w": ("1/8", "1")}]
        self.assertEqual([{name: tuple(map(str, stretch)) for name, stretch in box.items()} for box, _ in plain(design).swaps], want)
        # Swaps that are hidden by earlier ones, or lead a letter to itself, stay.
        swaps = [({}, {"a": "a"}), ({}, {"a": "b"}), ({"w": (0, 1)}, {"a": "a", "b": "b"})]
        self.assertEqual(plain(Design([axis], letters, swaps=swaps)).swaps, [({}, table) for _, table in swaps])

    def test_several_axes_of_a_box(self):
        axes = [axis_w(), Axis("v", least=0, home=0, most=1)]
        swaps = [({"v": (0, 1), "w": (0, HALF)}, {"a": "a"})]
        self.assertEqual(plain(Design(axes, {"a": Letter(Quantity(0))}, swaps=swaps)).swaps,
                         [({"w": (Ratio(0), HALF)}, {"a": "a"})])

    def test_without_axes(self):
        design = Design([], {"a": Letter(Quantity(3), [(1, 2)])}, pairs={"aa": Quantity(0)}, swaps=[({}, {"a": "a"})])
        made = plain(design=design)
        self.same(made, Design([], {"a": Letter(Quantity(3), [(1, 2)])}, swaps=[({}, {"a": "a"})]))
        self.same(value_at(made, "a", Setting()), value_at(design, "a", Setting()))
