"""Inferred moves, by their examples, by an oracle and by what follows from how they are told."""

import random

from betweenfaces.infer import infer
from betweenfaces.ratios import Ratio
from tests.oracle import moves_of_round, pairs, some_rounds
from tests.values import Case, HALF, kind_of


def shown(moves):
    return [(str(x), str(y)) for x, y in moves]


def rounds():
    return list(some_rounds(11, 300, 9))


class Infer(Case):
    def test_the_example(self):
        for middle, told in ((50, "10"), (75, "15"), (120, "20"), (100, "20"), (0, "0"), (-3, "0"), (Ratio(1, 3), "1/15")):
            got = infer([(0, 0), (middle, 0), (100, 0)], {0: (0, 0), 2: (20, 0)})
            self.assertEqual(shown(got), [("0", "0"), (told, "0"), ("20", "0")])

    def test_none_one_and_all_are_touched(self):
        points = [(0, 5), (3, HALF), (7, -2)]
        self.same(infer(points, {}), [(Ratio(0), Ratio(0))] * 3)
        self.same(infer(points=points, moves={1: (2, -HALF)}), [(Ratio(2), -HALF)] * 3)
        self.same(infer(points, {2: (1, 1), 0: (0, 0), 1: (HALF, 3)}),
                  pairs([(0, 0), (HALF, 3), (1, 1)]))
        self.same(infer([(4, 4)], {}), [(Ratio(0), Ratio(0))])
        self.same(infer([(4, 4)], {0: (1, HALF)}), [(Ratio(1), HALF)])

    def test_equal_home_numbers(self):
        points = [(5, 0), (5, 10), (5, 4), (9, 4)]
        self.assertEqual(shown(infer(points, {0: (2, 0), 1: (2, 10)})), [("2", "0"), ("2", "10"), ("2", "4"), ("2", "4")])
        self.assertEqual(shown(infer(points, {0: (2, 0), 1: (3, 10)})), [("2", "0"), ("3", "10"), ("0", "4"), ("0", "4")])

    def test_between_turned_ends_and_around_the_first_point(self):
        points = [(50, 0), (100, 0), (0, 0), (25, 0)]
        got = infer(points, {1: (10, 0), 2: (0, 0)})
        self.assertEqual(shown(got), [("5", "0"), ("10", "0"), ("0", "0"), ("5/2", "0")])

    def test_by_the_oracle(self):
        for points, moves in rounds():
            self.same(infer(points, moves), moves_of_round(points, moves))

    def test_what_is_passed_stays_and_what_is_returned_is_new(self):
        points, moves = [(0, 0), (1, 1), (2, 2)], {2: (HALF, 1), 0: (0, 1)}
        kept = kind_of((points, moves))
        got = infer(points, moves)
        got.append(1)
        got[0] = None
        self.assertEqual(len(infer(points, moves)), 3)
        self.assertEqual(kind_of((points, moves)), kept)

    def test_home_places_moved_enlarged_or_turned_round(self):
        for points, moves in rounds():
            told = kind_of(infer(points, moves))
            for factor, more in ((Ratio(1), Ratio(7, 3)), (Ratio(5, 2), Ratio(0)), (Ratio(-1), Ratio(1))):
                changed = [(Ratio.of(x) * factor + more, Ratio.of(y) * factor) for x, y in points]
                self.assertEqual(kind_of(infer(changed, moves)), told)

    def test_told_from_another_point_on_or_backwards(self):
        chance = random.Random(12)
        for points, moves in rounds():
            many, told = len(points), infer(points, moves)
            first = chance.randrange(many)
            orders = ([(first + step) % many for step in range(many)], [(first - step) % many for step in range(many)])
            for order in orders:
                got = infer([points[index] for index in order],
                            {at: moves[index] for at, index in enumerate(order) if index in moves})
                self.same(got, [told[index] for index in order])

    def test_moves_times_a_number(self):
        for points, moves in rounds():
            for factor in (Ratio(-3, 2), Ratio(0), Ratio(10)):
                times = {index: (Ratio.of(x) * factor, Ratio.of(y) * factor) for index, (x, y) in moves.items()}
                self.same(infer(points, times), [(x * factor, y * factor) for x, y in infer(points, moves)])

    def test_x_and_y_exchanged(self):
        for points, moves in rounds():
            got = infer([(y, x) for x, y in points], {index: (y, x) for index, (x, y) in moves.items()})
            self.same([(x, y) for y, x in got], infer(points, moves))

    def test_all_moves_told_are_themselves(self):
        for points, moves in rounds():
            all_moves = infer(points, moves)
            self.same(infer(points, dict(enumerate(all_moves))), all_moves)
