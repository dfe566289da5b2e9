"""Designs whose rows touch few points, or all: the points [9], [13], [21] and the sparse module."""

from betweenfaces.designs import Design
from betweenfaces.fewest import sparse_row
from betweenfaces.flatten import flattened
from betweenfaces.letters import Letter
from betweenfaces.plain import plain
from betweenfaces.quantities import Quantity
from betweenfaces.rows import FullRow, SparseRow
from betweenfaces.sparse import full, sparse
from tests.drawn import in_ratios, inner_places, picture_at, told
from tests.examples import UP, axis_w
from tests.makers import Maker
from tests.test_cutting import some_room
from tests.values import Case, kind_of

BAR = [(0, 0), (50, 0), (100, 0)]


class Sparse(Case):
    def test_random_designs(self):
        for seed in range(60):
            maker = Maker(seed)
            design = maker.design(names=("", "w", "wt", "xyz")[seed % 4])
            ahead = kind_of(design)
            thin, thick, made = sparse(design), full(design), plain(design)
            self.assertEqual(kind_of(design), ahead)
            for name in design:
                self.same(thin[name].rows, tuple(sparse_row(made[name], row) for row in made[name].rows))
                self.same(thick[name].rows, tuple(FullRow(row.reach, row.filled(design[name])) for row in design[name].rows))
                self.assertEqual(thin[name].width, made[name].width)
                self.assertEqual(thick[name].width, design[name].width)
            self.same(full(thin), made)
            self.same((thick.axes, thick.pairs, thick.swaps), (design.axes, design.pairs, design.swaps))
            for other in (plain(thin), plain(thick), full(plain(thick))):
                self.same(other, made)
            self.same(sparse(thin), thin)
            self.same(sparse(thick), thin)
            for setting, text in [(maker.setting(design.axes), maker.text("abcd")) for _ in range(3)]:
                want = in_ratios(picture_at(design, inner_places(design, told(setting)), text))
                self.same(thin(setting, text), want)
                self.same(thick(setting, text), want)

    def test_other_changes_give_plain_designs_again(self):
        for seed in range(20):
            maker = Maker(seed)
            design = maker.design(names=("w", "wt")[seed % 2])
            room = some_room(maker, design.axes)
            self.same(sparse(design).cut(room), design.cut(room))
            self.same(flattened(sparse(design)), flattened(design))
            self.same(sparse(design).without(), plain(design))

    def test_rows_that_touch_unlike_points(self):
        rows = [SparseRow(UP, {0: (0, 0), 2: (20, 0)}), SparseRow(UP, {1: (5, 5)}), FullRow(UP, [(1, 0), (1, 0), (1, 0)])]
        design = Design([axis_w()], {"a": Letter(Quantity(0), BAR, rows=rows)})
        moves = [(6, 5), (16, 5), (26, 5)]
        self.same(plain(design)["a"].rows, (FullRow(UP, moves),))
        self.same(sparse(design)["a"].rows, (SparseRow(UP, {0: moves[0], 2: moves[2]}),))
        self.same(full(design=design)["a"].rows,
                  (FullRow(UP, [(0, 0), (10, 0), (20, 0)]), FullRow(UP, [(5, 5)] * 3), rows[2]))

    def test_parts_and_rounds(self):
        a = Letter(Quantity(0), BAR, [(7, 7)], parts=[("b", 0, 0), ("b", 1, 1)],
                   rows=[FullRow(UP, [(3, 3), (3, 3), (3, 3), (0, 0), (0, 0), (0, 1)])])
        design = Design([axis_w()], {"a": a, "b": Letter(Quantity(0))})
        self.same(sparse(design=design)["a"].rows, (SparseRow(UP, {0: (3, 3), 5: (0, 1)}),))

    def test_without_rows(self):
        design = Design([], {"a": Letter(Quantity(2), BAR)})
        for made in (sparse(design), full(design)):
            self.same(made, design)
