"""Letters: how they are made, and where their spots lie."""

import random

from betweenfaces.errors import InvalidLetter
from betweenfaces.letters import Letter
from betweenfaces.quantities import Quantity
from betweenfaces.ratios import Ratio
from betweenfaces.rows import FullRow, SparseRow
from betweenfaces.settings import Setting
from betweenfaces.tents import Reach, Tent
from tests.oracle import pairs
from tests.values import Case, HALF, kind_of, odd_values

UP, MID, DOWN = Reach(w=Tent(0, 1, 1)), Reach(w=Tent(0, HALF, 1)), Reach(w=Tent(-1, -1, 0))
WIDE, BOTH = Reach(v=Tent(0, 1, 2)), Reach(v=Tent(0, 2, 2), w=Tent(0, HALF, 1))
TEN = Quantity(10)
POINTS, MORE = [(0, 0), (50, 0), (100, HALF)], ((1, 2),)
PARTS = [("a", 5, HALF), ("z", 0, 0)]
ROWS = [FullRow(UP, [(1, 1)] * 6), SparseRow(MID, {5: (1, 2), 0: (3, 4)})]


def is_a_point(value):
    return isinstance(value, tuple) and len(value) == 2 and all(
        isinstance(one, Ratio) or (isinstance(one, int) and not isinstance(one, bool)) for one in value)


class Made(Case):
    def test_by_the_class_and_by_of(self):
        for one in (Letter(TEN, POINTS, MORE, parts=PARTS, rows=ROWS), Letter.of(TEN, [POINTS, MORE], PARTS, ROWS),
                    Letter.of(rounds=(tuple(POINTS), MORE), width=TEN, rows=tuple(ROWS), parts=tuple(PARTS))):
            self.equal(one.width, TEN)
            self.same(one.rounds, (tuple(pairs(POINTS)), tuple(pairs(MORE))))
            self.same(one.parts, (("a", Ratio(5), HALF), ("z", Ratio(0), Ratio(0))))
            self.same(one.rows, tuple(ROWS))
            self.same(one.spots, tuple(pairs(POINTS + list(MORE) + [(5, HALF), (0, 0)])))
            self.assertEqual(len(one), 6)
        for none in (Letter(TEN), Letter(width=TEN), Letter.of(TEN, []), Letter.of(TEN, (), (), ())):
            self.same([none.rounds, none.parts, none.rows, none.spots, len(none)], [(), (), (), (), 0])
        self.assertEqual(len(Letter(TEN, parts=[("b", 1, 1)], rows=[FullRow(UP, [(1, 1)])])), 1)

    def test_the_width_first(self):
        for value in odd_values():
            if not isinstance(value, Quantity):
                self.refused(InvalidLetter("width"), Letter, value)
                self.refused(InvalidLetter("width"), Letter, value, None, parts=None, rows=None)
                self.refused(InvalidLetter("width"), Letter.of, value, None)
                self.refused(InvalidLetter("width"), Letter.of, value, [1], 2, 3)

    def test_then_the_rounds(self):
        for value in odd_values():
            right = isinstance(value, (list, tuple)) and len(value) > 0 and all(is_a_point(point) for point in value)
            if not right:
                self.refused(InvalidLetter("rounds"), Letter, TEN, POINTS, value, parts=None)
                self.refused(InvalidLetter("rounds"), Letter.of, TEN, [value], rows=None)
            if not isinstance(value, (list, tuple)) or not all(isinstance(one, (list, tuple)) for one in value):
                self.refused(InvalidLetter("rounds"), Letter.of, TEN, value, None, None)
            if not is_a_point(value):
                self.refused(InvalidLetter("rounds"), Letter, TEN, [(0, 0), value])
        for points in ([], (), [[0, 0]], [(0, 0, 0)], [(0,)], [(True, 0)], [(0, "0")], {(0, 0): 1}, [None], (0, 0)):
            self.refused(InvalidLetter("rounds"), Letter, TEN, points)

    def test_then_the_parts(self):
        for value in odd_values():
            if value not in ((), []):
                self.refused(InvalidLetter("parts"), Letter, TEN, POINTS, parts=value, rows=None)
                self.refused(InvalidLetter("parts"), Letter.of, TEN, [POINTS], value, None)
            self.refused(InvalidLetter("parts"), Letter, TEN, parts=[("a", 0, 0), value])
        for part in (("A", 0, 0), ("ab", 0, 0), ("", 0, 0), ("a", 0), ("a", 0, 0, 0), ["a", 0, 0], ("a", (0, 0)), ("1", 0, 0),
                     ("a", True, 0), ("a", 0, None), (1, 0, 0), (("a",), 0, 0), ("\n", 0, 0), ("`", 0, 0), ("{", 0, 0),
                     (["a"], 0, 0)):
            self.refused(InvalidLetter("parts"), Letter, TEN, parts=[part])
        self.refused(InvalidLetter("parts"), Letter, TEN, parts={"a": (0, 0)})

    def test_then_the_rows(self):
        for value in odd_values():
            if value not in ((), []):
                self.refused(InvalidLetter("rows"), Letter, TEN, POINTS, rows=value)
                self.refused(InvalidLetter("rows"), Letter.of, TEN, [POINTS], [], value)
            if not isinstance(value, SparseRow):
                self.refused(InvalidLetter("rows"), Letter, TEN, POINTS, rows=[FullRow(UP, [(0, 0)] * 3), value])
        for row in (FullRow(UP, [(0, 0)] * 2), FullRow(UP, [(0, 0)] * 4), SparseRow(UP, {3: (0, 0)}),
                    SparseRow(UP, {0: (1, 1), 10 ** 50: (0, 0)}), (UP, 1), UP):
            self.refused(InvalidLetter("rows"), Letter, TEN, POINTS, rows=[row])
        self.refused(InvalidLetter("rows"), Letter, TEN, POINTS, parts=[("a", 1, 1)], rows=[FullRow(UP, [(0, 0)] * 3)])
        self.refused(InvalidLetter("rows"), Letter, TEN, rows=[FullRow(UP, [(0, 0)])])

    def test_what_is_passed_can_be_changed_later(self):
        points, parts, rows = list(POINTS), list(PARTS), [SparseRow(UP, {0: (1, 1)})]
        rounds = [points]
        made = [Letter(TEN, points, parts=parts, rows=rows), Letter.of(TEN, rounds, parts, rows)]
        kept = kind_of(made)
        points[0] = (9, 9)
        for one in (points, rounds, parts, rows):
            one.append(None)
        self.assertEqual(kind_of(made), kept)

    def test_equal(self):
        def made(width=TEN, rounds=(POINTS, MORE), parts=PARTS, rows=ROWS):
            return Letter.of(width, rounds, parts, rows)
        self.equal(made(), Letter(Quantity(Ratio(10)), tuple(POINTS), list(MORE), parts=tuple(PARTS), rows=list(ROWS)))
        for other in (made(width=Quantity(11)), made(rounds=(MORE, POINTS)), made(rounds=[POINTS + list(MORE)]),
                      made(parts=PARTS[::-1]), made(parts=[("a", 5, HALF), ("y", 0, 0)]), made(rows=ROWS[::-1]),
                      made(rows=ROWS[:1]), made(rows=()), made(parts=[("a", 5, HALF), ("z", 0, 1)])):
            self.unequal(made(), other)
        self.equal_to_none(made())


class Moved(Case):
    def test_the_example(self):
        bar = Letter(Quantity(100), [(0, 0), (50, 0), (100, 0)],
                     rows=[SparseRow(Reach(weight=Tent(0, 1, 1)), {0: (0, 0), 2: (20, 0)})])
        got = bar.moved(Setting(weight=1))
        self.assertEqual([[str(x) for x, y in got], bar.rows[0].touched(bar), len(bar)], [["0", "60", "120"], [0, 2], 3])

    def test_ends_peaks_between_and_beyond(self):
        rows = [FullRow(MID, [(4, 0), (8, -4)]), SparseRow(DOWN, {0: (6, 6)}), SparseRow(UP, {1: (0, 2)}),
                FullRow(BOTH, [(100, 0), (0, 100)])]
        one = Letter(TEN, [(1, 1)], parts=[("b", 10, 10)], rows=rows)
        for v, w, told in ((0, 0, [(1, 1), (10, 10)]), (0, HALF, [(5, 1), (18, 7)]), (0, 1, [(1, 1), (10, 12)]),
                           (0, Ratio(1, 4), [(3, 1), (14, Ratio(17, 2))]), (0, -1, [(7, 7), (10, 10)]),
                           (0, Ratio(-1, 2), [(4, 4), (10, 10)]), (0, -2, [(1, 1), (10, 10)]), (0, 2, [(1, 1), (10, 10)]),
                           (2, HALF, [(105, 1), (18, 107)]), (1, HALF, [(55, 1), (18, 57)]), (3, HALF, [(5, 1), (18, 7)]),
                           (2, 1, [(1, 1), (10, 12)])):
            here = Setting(v=v, w=w, x=5)
            self.same(one.moved(setting=here), pairs(told))
            self.same(one.moved(Setting(w=w, v=v)), pairs(told))
            self.equal(here, Setting(v=v, w=w, x=5))

    def test_the_list_is_new(self):
        for one in (Letter(TEN, POINTS), Letter(TEN, POINTS, rows=[FullRow(UP, [(1, 1)] * 3)])):
            got = one.moved(Setting(w=0))
            got.append(None)
            got[0] = None
            self.same(one.moved(Setting(w=0)), pairs(POINTS))
        self.same(Letter(TEN).moved(Setting()), [])
        self.same(Letter(TEN, POINTS).moved(Setting()), pairs(POINTS))

    def test_two_rows_over_one_reach_can_be_added(self):
        chance = random.Random(31)
        for _ in range(40):
            points = [(chance.randint(0, 9), chance.randint(0, 9)) for _ in range(5)]
            parts = [("a", 1, 1)]
            rows = [SparseRow(UP, {spot: (chance.randint(-4, 4), chance.randint(-4, 4))
                                   for spot in chance.sample(range(6), chance.randint(0, 6))}) for _ in range(2)]
            one = Letter(TEN, points, parts=parts, rows=rows)
            filled = [row.filled(one) for row in rows]
            added = FullRow(UP, [(a + c, b + d) for (a, b), (c, d) in zip(*filled)])
            other = Letter(TEN, points, parts=parts, rows=[added])
            full = Letter(TEN, points, parts=parts, rows=[FullRow(UP, moves) for moves in filled])
            for part in range(5):
                here = Setting(w=Ratio(part, 4))
                self.same(one.moved(here), other.moved(here))
                self.same(one.moved(here), full.moved(here))
