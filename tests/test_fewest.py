"""The fewest touched points, their potentials, sparse rows, and the checks of both."""

import random

from betweenfaces.fewcheck import check_fewest, check_touched
from betweenfaces.fewest import sparse_row, touched_least
from betweenfaces.infer import infer
from betweenfaces.letters import Letter
from betweenfaces.quantities import Quantity
from betweenfaces.ratios import Ratio
from betweenfaces.rows import FullRow, SparseRow
from betweenfaces.settings import Setting
from betweenfaces.tents import Reach, Tent
from tests.oracle import fewest_touched, gives_all, is_right, least_arcs, pairs, some_rounds
from tests.values import Case, HALF, kind_of, odd_values

UP = Reach(w=Tent(0, 1, 1))
LINE, MOVES = [(0, 0), (50, 0), (100, 0)], [(0, 0), (10, 0), (20, 0)]
TOLD = ((0, 2), ((0, 1, 1, 2), (0, 1, 2, 3), (0, 1, 2, 2)))


def rounds(seed, count, most=7):
    """Rounds with all their moves; in some of them one move is another one than the inferred."""
    chance = random.Random(seed)
    for points, touched in some_rounds(seed, count, most):
        moves = infer(points, touched)
        if chance.random() < 0.3:
            moves[chance.randrange(len(moves))] = (1, Ratio(1, 3))
        yield points, moves


class Fewest(Case):
    def test_the_example(self):
        self.same(touched_least(LINE, MOVES), TOLD)
        self.same(touched_least(points=LINE, moves=MOVES), TOLD)

    def test_no_moves(self):
        for many in (1, 2, 5):
            self.same(touched_least([(3, 4)] * many, [(0, 0)] * many), ((), ()))
            self.same(touched_least([(3, 4)] * many, [(Ratio(0), 0)] * many), ((), ()))

    def test_one_point(self):
        self.same(touched_least([(3, 4)], [(1, 0)]), ((0,), ((0, 1),)))
        self.same(touched_least([(3, 4)], [(0, HALF)]), ((0,), ((0, 1),)))

    def test_equal_moves_and_equal_home_numbers(self):
        self.same(touched_least([(0, 0), (5, 5), (9, 1)], [(2, 1)] * 3), ((0,), ((0, 1, 1, 1),) * 3))
        self.same(touched_least([(5, 0)] * 2, [(1, 0), (2, 0)]), ((0, 1), ((0, 1, 2), (0, 1, 2))))
        # Between two points of one home number and different moves the inferred move is 0.
        self.same(touched_least([(5, 0)] * 3, [(1, 0), (0, 0), (2, 0)])[0], (0, 2))

    def test_of_several_the_least(self):
        square = [(0, 0), (10, 0), (10, 10), (0, 10)]
        for moves in ([(0, 0), (4, 0), (4, 4), (0, 4)], [(0, 0), (4, 0), (4, 0), (0, 0)]):
            indexes = touched_least(square, moves)[0]
            self.assertEqual(indexes, fewest_touched(square, moves))

    def test_by_trying_all(self):
        for points, moves in rounds(41, 250):
            indexes, potentials = touched_least(points, moves)
            self.same(indexes, fewest_touched(points, moves))
            still = all(not Ratio.of(x) and not Ratio.of(y) for x, y in moves)
            self.same(potentials, () if still else least_arcs(points, moves))

    def test_larger_rounds_by_the_checks(self):
        for points, moves in rounds(42, 60, 16):
            kept = kind_of((points, moves))
            told = touched_least(points, moves)
            self.assertIs(check_fewest(points, moves, told), True)
            self.assertEqual(kind_of((points, moves)), kept)
            for index in told[0]:
                self.assertIs(check_touched(points, moves, tuple(one for one in told[0] if one != index)), False)

    def test_a_round_of_very_many_points(self):
        points = [(index, index * index) for index in range(48)]
        moves = [(3 * index, HALF) for index in range(48)]
        indexes, potentials = touched_least(points, moves)
        self.assertEqual(indexes, (0, 47))
        self.assertIs(check_fewest(points, moves, (indexes, potentials)), True)


class Sparse(Case):
    def test_rounds_and_parts(self):
        letter = Letter(Quantity(1), LINE, [(0, 0), (9, 9)], [(1, 1), (2, 2)], parts=[("a", 0, 0), ("b", 1, 1), ("c", 0, 0)])
        row = FullRow(UP, MOVES + [(0, 0), (0, 0), (HALF, 1), (HALF, 1), (0, 0), (0, 2), (1, 0)])
        told = SparseRow(UP, {0: (0, 0), 2: (20, 0), 5: (HALF, 1), 8: (0, 2), 9: (1, 0)})
        self.equal(sparse_row(letter, row), told)
        self.equal(sparse_row(row=told, letter=letter), told)
        self.equal(sparse_row(letter, FullRow(UP, [(0, 0)] * 10)), SparseRow(UP, {}))
        self.equal(sparse_row(Letter(Quantity(1)), FullRow(UP, [])), SparseRow(UP, {}))

    def test_the_letter_is_moved_as_before(self):
        chance = random.Random(43)
        found = list(rounds(44, 120))
        for (points, moves), (others, more) in zip(found, found[1:]):
            offset = (chance.randint(0, 1), chance.randint(0, 1))
            row = FullRow(UP, moves + more + [offset])
            letter = Letter(Quantity(1), points, others, parts=[("a", 3, 3)], rows=[row])
            sparse = sparse_row(letter, row)
            self.same(sparse.filled(letter), row.filled(letter))
            first = len(points)
            told = list(touched_least(points, moves)[0]) + [first + index for index in touched_least(others, more)[0]]
            told += [first + len(others)] if offset != (0, 0) else []
            self.same(sparse.touched(letter), told)
            self.equal(sparse_row(letter, sparse), sparse)
            other = Letter(Quantity(1), points, others, parts=[("a", 3, 3)], rows=[sparse])
            for part in range(3):
                here = Setting(w=Ratio(part, 2))
                self.same(other.moved(here), letter.moved(here))


class Touched(Case):
    def test_all_tuples_of_indexes(self):
        for points, moves in rounds(45, 60, 5):
            many = len(points)
            for number in range(2 ** many):
                indexes = tuple(index for index in range(many) if number & 2 ** index)
                self.assertIs(check_touched(points, moves, indexes), gives_all(points, moves, indexes))

    def test_what_is_no_such_tuple(self):
        self.assertIs(check_touched(points=LINE, moves=MOVES, thing=(0, 2)), True)
        for thing in ([0, 2], (2, 0), (0, 0, 2), (0, 2, 2), (0, 2, 3), (-1, 0, 2), (0, -1), (False, 2), (0, Ratio(2)), ("0", 2),
                      (0, 2, None), (0, 1), (0,), (), ((0, 2),), {0: 0, 2: 2}, "02", (0, (2,)), (-3, 2), (0, 10 ** 59)):
            self.assertIs(check_touched(LINE, MOVES, thing), False)
        for value in odd_values():
            ahead = kind_of(value)
            told = isinstance(value, tuple) and list(value) in ([0, 1, 2], [0, 2])
            self.assertIs(check_touched(LINE, MOVES, value), told)
            self.assertEqual(kind_of(value), ahead)
        self.assertIs(check_touched([(1, 1), (2, 2)], [(3, 0), (3, 0)], (True,)), False)
        self.assertIs(check_touched([(1, 1), (2, 2)], [(3, 0), (3, 0)], (1,)), True)
        self.assertIs(check_touched([(1, 1)], [(3, 0)], (-1,)), False)
        self.assertIs(check_touched([(1, 1)], [(3, 0)], (0,)), True)

    def test_no_moves(self):
        still = [(0, Ratio(0))] * 3
        for thing in ((), (0,), (1, 2), (0, 1, 2)):
            self.assertIs(check_touched(LINE, still, thing), True)
        self.assertIs(check_touched(LINE, still, []), False)


def shows(points, moves, thing):
    """What check_fewest tells for a pair of tuples of integers, by the words of the interface."""
    touched, potentials = thing
    many = len(points)
    if not gives_all(points, moves, touched) or len(potentials) != many:
        return False
    for start, numbers in enumerate(potentials):
        if len(numbers) != many + 1 or numbers[0] != 0 or numbers[many] < len(touched):
            return False
        for at in range(many):
            for behind in range(at + 1, many + 1):
                right = is_right(points, moves, (start + at) % many, behind - at)
                if right and numbers[behind] > numbers[at] + 1:
                    return False
    return True


class Shown(Case):
    def test_what_is_told_is_shown(self):
        self.assertIs(check_fewest(points=LINE, moves=MOVES, thing=TOLD), True)
        for points, moves in rounds(46, 150):
            self.assertIs(check_fewest(points, moves, touched_least(points, moves)), True)

    def test_more_points_are_not_the_fewest(self):
        for points, moves in rounds(47, 80, 5):
            fewest, potentials = touched_least(points, moves)
            for number in range(2 ** len(points)):
                indexes = tuple(index for index in range(len(points)) if number & 2 ** index)
                told = len(indexes) == len(fewest) and gives_all(points, moves, indexes)
                self.assertIs(check_fewest(points, moves, (indexes, potentials)), told)

    def test_other_numbers(self):
        chance = random.Random(48)
        for points, moves in rounds(49, 150, 6):
            touched, potentials = touched_least(points, moves)
            if not touched:
                continue
            for _ in range(12):
                changed = [list(numbers) for numbers in potentials]
                for _ in range(chance.randint(1, 3)):
                    changed[chance.randrange(len(points))][chance.randrange(len(points) + 1)] += chance.choice((-2, -1, 1))
                thing = (touched, tuple(tuple(numbers) for numbers in changed))
                self.assertIs(check_fewest(points, moves, thing), shows(points, moves, thing))

    def test_numbers_that_are_less_than_the_least(self):
        less = ((0, 2), ((0, 1, 1, 2), (0, 1, 1, 2), (0, 1, 1, 2)))
        self.assertIs(check_fewest(LINE, MOVES, less), True)
        less = ((0, 2), ((0, -5, 1, 2), (0, 1, 2, 3), (0, 1, 2, 2)))
        self.assertIs(check_fewest(LINE, MOVES, less), shows(LINE, MOVES, less))
        self.assertIs(check_fewest(LINE, MOVES, ((0, 2), ((0, 0, 1, 1), (0, 1, 2, 3), (0, 1, 2, 2)))), False)
        self.assertIs(check_fewest(LINE, MOVES, ((0, 2), ((0, 1, 1, 3), (0, 1, 2, 3), (0, 1, 2, 2)))), False)

    def test_other_kinds(self):
        touched, (one, two, three) = TOLD
        for thing in ([touched, (one, two, three)], (touched,), (touched, (one, two, three), ()), (list(touched), (one, two, three)),
                      (touched, [one, two, three]), (touched, (one, two)), (touched, (one, two, three, one)),
                      (touched, (list(one), two, three)), (touched, (one[:3], two, three)), (touched, (one + (2,), two, three)),
                      (touched, ((0, True, 1, 2), two, three)), (touched, ((False, 1, 1, 2), two, three)),
                      (touched, ((0, 1, 1, Ratio(2)), two, three)), (touched, ((0, 1, None, 2), two, three)),
                      (touched, ((1, 1, 1, 2), two, three)), (touched, ((-1, 0, 0, 2), two, three)), (touched, ()), ((), ()),
                      ((), (one, two, three)), ((0, 1), (one, two, three)), ((0, 1, 2), (one, two, three)), (touched, None)):
            self.assertIs(check_fewest(LINE, MOVES, thing), False)
        for value in odd_values():
            ahead = kind_of(value)
            self.assertIs(check_fewest(LINE, MOVES, value), False)
            self.assertIs(check_fewest(LINE, MOVES, (touched, value)), False)
            told = kind_of(value) == kind_of(two)
            self.assertIs(check_fewest(LINE, MOVES, (touched, (one, value, three))), told)
            self.assertIs(check_fewest(LINE, MOVES, (value, (one, two, three))), False)
            self.assertEqual(kind_of(value), ahead)

    def test_no_moves(self):
        still = [(0, 0)] * 3
        self.assertIs(check_fewest(LINE, still, ((), ())), True)
        for thing in (((0,), ()), ((), TOLD[1]), ((), ((0, 0, 0, 0),) * 3), ([], ()), ((), []), (), ((),), [(), ()], None,
                      ((0,), ((0, 1, 1, 1),) * 3), ((), (), ())):
            self.assertIs(check_fewest(LINE, still, thing), False)
        self.assertEqual(pairs(still), infer(LINE, {}))
