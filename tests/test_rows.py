"""Full and sparse rows."""

from betweenfaces.errors import InvalidRow
from betweenfaces.letters import Letter
from betweenfaces.quantities import Quantity
from betweenfaces.ratios import Ratio
from betweenfaces.rows import FullRow, Row, SparseRow
from betweenfaces.tents import Reach, Tent
from tests.oracle import moves_of_round, pairs, some_rounds
from tests.values import Case, HALF, odd_values

UP, MID = Reach(w=Tent(0, 1, 1)), Reach(w=Tent(0, HALF, 1))


def letter(*rounds, parts=()):
    return Letter(Quantity(10), *rounds, parts=parts)


def is_a_move(value):
    return isinstance(value, tuple) and len(value) == 2 and all(
        isinstance(one, Ratio) or (isinstance(one, int) and not isinstance(one, bool)) for one in value)


class Made(Case):
    def test_the_reach_and_the_moves(self):
        full, sparse = FullRow(UP, [(1, HALF), (0, -2)]), SparseRow(UP, {7: (1, HALF), 0: (0, -2)})
        self.same([full.reach, full.moves], [UP, ((Ratio(1), HALF), (Ratio(0), Ratio(-2)))])
        self.same([sparse.reach, sparse.moves], [UP, ((0, (Ratio(0), Ratio(-2))), (7, (Ratio(1), HALF)))])
        self.assertTrue(isinstance(full, Row) and isinstance(sparse, Row))
        self.same([FullRow(moves=(), reach=UP).moves, SparseRow(moves={}, reach=UP).moves], [(), ()])
        self.same(FullRow(UP, ((1, 2),)).moves, FullRow(UP, [(1, 2)]).moves)

    def test_the_reach_first(self):
        for value in odd_values():
            if not isinstance(value, Reach):
                for moves in ([], None, {}):
                    self.refused(InvalidRow("reach"), FullRow, value, moves)
                    self.refused(InvalidRow("reach"), SparseRow, value, moves)

    def test_then_the_moves(self):
        for value in odd_values():
            if not isinstance(value, (list, tuple)) or not all(is_a_move(move) for move in value):
                self.refused(InvalidRow("moves"), FullRow, UP, value)
            right = isinstance(value, dict) and all(
                isinstance(spot, int) and not isinstance(spot, bool) and is_a_move(value[spot]) for spot in value)
            if not right:
                self.refused(InvalidRow("moves"), SparseRow, UP, moves=value)
            if not is_a_move(value):
                self.refused(InvalidRow("moves"), FullRow, UP, [(1, 1), value])
                self.refused(InvalidRow("moves"), SparseRow, UP, {0: (1, 1), 1: value})
        for move in ((1, 2, 3), [1, 2], (True, 1), (1, False), ("1", 1), (1,), None, 1):
            self.refused(InvalidRow("moves"), FullRow, UP, [move])
            self.refused(InvalidRow("moves"), SparseRow, UP, {0: move})
        for spot in (-1, True, False, None, "0", Ratio(1).top * -3, (0,)):
            self.refused(InvalidRow("moves"), SparseRow, UP, {spot: (1, 1)})
            self.refused(InvalidRow("moves"), SparseRow, UP, {5: (1, 1), spot: (1, 1)})
        self.refused(InvalidRow("moves"), FullRow, UP, {0: (1, 1)})
        self.refused(InvalidRow("moves"), SparseRow, UP, [(0, (1, 1))])
        self.refused(InvalidRow("moves"), SparseRow, UP, [])

    def test_what_is_passed_can_be_changed_later(self):
        moves, touched = [(1, 1)], {0: (1, 1)}
        full, sparse = FullRow(UP, moves), SparseRow(UP, touched)
        moves.append((2, 2))
        touched[1] = None
        self.equal(full, FullRow(UP, [(1, 1)]))
        self.equal(sparse, SparseRow(UP, {0: (1, 1)}))

    def test_fits(self):
        for many in range(5):
            self.assertIs(FullRow(UP, [(0, 0)] * 3).fits(many=many), many == 3)
            self.assertIs(FullRow(UP, []).fits(many), many == 0)
            self.assertIs(SparseRow(UP, {2: (0, 0), 0: (1, 1)}).fits(many=many), many > 2)
            self.assertIs(SparseRow(UP, {}).fits(many), True)

    def test_equal(self):
        self.equal(FullRow(UP, [(1, 2)]), FullRow(Reach(w=Tent(0, 1, 1)), ((Ratio(1), Ratio(4, 2)),)))
        self.equal(SparseRow(UP, {0: (1, 2), 3: (0, 0)}), SparseRow(UP, {3: (0, 0), 0: (Ratio(1), 2)}))
        for one, other in ((FullRow(UP, []), SparseRow(UP, {})), (FullRow(UP, [(0, 0)]), FullRow(MID, [(0, 0)])),
                           (FullRow(UP, [(0, 0)]), FullRow(UP, [(0, 1)])), (FullRow(UP, [(0, 0)]), FullRow(UP, [])),
                           (SparseRow(UP, {0: (0, 0)}), SparseRow(MID, {0: (0, 0)})),
                           (SparseRow(UP, {0: (0, 0)}), SparseRow(UP, {1: (0, 0)})),
                           (SparseRow(UP, {0: (0, 0)}), SparseRow(UP, {})),
                           (SparseRow(UP, {0: (0, 0)}), SparseRow(UP, {0: (0, 1)}))):
            self.unequal(one, other)
        self.equal_to_none(FullRow(UP, []))
        self.equal_to_none(SparseRow(UP, {}))


class Filled(Case):
    def test_full_rows(self):
        one = letter([(0, 0), (1, 1)], parts=[("a", 5, 5)])
        row = FullRow(UP, [(1, 2), (3, 4), (5, HALF)])
        self.same(row.filled(letter=one), [(Ratio(1), Ratio(2)), (Ratio(3), Ratio(4)), (Ratio(5), HALF)])
        self.same(row.touched(letter=one), [0, 1, 2])
        row.filled(one).append(None)
        self.same(len(row.filled(one)), 3)
        self.same([FullRow(UP, []).filled(letter()), FullRow(UP, []).touched(letter())], [[], []])

    def test_rounds_are_inferred_each_by_itself(self):
        one = letter([(0, 0), (50, 0), (100, 0)], [(0, 0), (100, 0)], [(7, 7)], parts=[("a", 5, 5), ("b", 0, 0)])
        row = SparseRow(UP, {0: (0, 0), 2: (20, 0), 4: (3, 4), 7: (HALF, 1)})
        told = [(0, 0), (10, 0), (20, 0), (3, 4), (3, 4), (0, 0), (0, 0), (HALF, 1)]
        self.same(row.filled(letter=one), pairs(told))
        self.same(row.touched(letter=one), [0, 2, 4, 7])
        row.touched(one).append(9)
        self.same(row.touched(one), [0, 2, 4, 7])

    def test_none_and_all_are_touched(self):
        one = letter([(0, 0), (1, 1)], parts=[("a", 5, 5)])
        self.same(SparseRow(UP, {}).filled(one), pairs([(0, 0)] * 3))
        self.same(SparseRow(UP, {}).touched(one), [])
        moves = {0: (1, 2), 1: (3, 4), 2: (0, 0)}
        self.same(SparseRow(UP, moves).filled(one), pairs(moves.values()))
        self.same(SparseRow(UP, moves).touched(one), [0, 1, 2])

    def test_letters_with_other_home_places(self):
        row = SparseRow(UP, {0: (0, 0), 2: (20, 0)})
        for middle, told in ((50, 10), (25, 5), (0, 0), (200, 20)):
            self.same(row.filled(letter([(0, 0), (middle, 0), (100, 0)]))[1], (Ratio(told), Ratio(0)))

    def test_several_rounds_by_the_oracle(self):
        rounds = list(some_rounds(21, 200))
        for (points, moves), (others, more) in zip(rounds, rounds[1:]):
            first = len(points)
            touched = {**moves, **{first + index: move for index, move in more.items()}}
            one = letter(points, others, parts=[("a", 1, 1)])
            told = moves_of_round(points, moves) + moves_of_round(others, more) + pairs([(0, 0)])
            self.same(SparseRow(UP, touched).filled(one), told)
            self.same(SparseRow(UP, touched).touched(one), sorted(touched))
