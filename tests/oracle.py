"""The points [8], [9] and [13] of the document in Fractions, as plainly as they are told there."""

import itertools
import random
from fractions import Fraction

from betweenfaces.ratios import Ratio


def fraction(number):
    number = Ratio.of(number)
    return Fraction(number.top, number.bottom)


def ratio(number):
    number = Fraction(number)
    return Ratio(number.numerator, number.denominator)


def pairs(points):
    """Pairs of numbers as pairs of Ratios."""
    return [(Ratio.of(x), Ratio.of(y)) for x, y in points]


def inferred(P, p, Q, q, t):
    """The move of a number at t between the touched P and Q with the moves p and q."""
    if P == Q:
        return p if p == q else Fraction(0)
    if (t - P) * (Q - P) <= 0:
        return p
    if (t - Q) * (P - Q) <= 0:
        return q
    return p + (q - p) * (t - P) / (Q - P)


def moves_of_round(points, moves):
    """All moves of a round, as Ratios, from a dict of those of the touched points."""
    many = len(points)
    told = []
    for index in range(many):
        if not moves:
            told.append((Ratio(0), Ratio(0)))
            continue
        if index in moves:
            told.append((Ratio.of(moves[index][0]), Ratio.of(moves[index][1])))
            continue
        before = next((index - step) % many for step in range(1, many + 1) if (index - step) % many in moves)
        behind = next((index + step) % many for step in range(1, many + 1) if (index + step) % many in moves)
        told.append(tuple(ratio(inferred(
            fraction(points[before][side]), fraction(moves[before][side]), fraction(points[behind][side]),
            fraction(moves[behind][side]), fraction(points[index][side]))) for side in (0, 1)))
    return told


def gives_all(points, moves, indexes):
    return moves_of_round(points, {index: moves[index] for index in indexes}) == pairs(moves)


def fewest_touched(points, moves):
    """The least of the smallest tuples of indexes that give all moves, by trying all."""
    for many in range(len(points) + 1):
        for indexes in itertools.combinations(range(len(points)), many):
            if gives_all(points, moves, indexes):
                return indexes


def is_right(points, moves, start, places):
    """Whether the arc from a point to the one so many places behind it is right."""
    many = len(points)
    end = (start + places) % many
    told = moves_of_round(points, {start: moves[start], end: moves[end]})
    between = [(start + step) % many for step in range(1, places)]
    return all(told[index] == pairs(moves)[index] for index in between)


def least_arcs(points, moves):
    """For each point the least numbers of right arcs to the point 0 to n places behind it."""
    many = len(points)
    right = {(start, places): is_right(points, moves, start, places)
             for start in range(many) for places in range(1, many + 1)}
    told = []
    for start in range(many):
        counts = [0] + [None] * many
        reached = {0}
        for arcs in range(1, many + 1):
            reached = {at + places for at in reached for places in range(1, many - at + 1)
                       if right[(start + at) % many, places]}
            for at in reached:
                counts[at] = arcs if counts[at] is None else counts[at]
        told.append(tuple(counts))
    return tuple(told)


def some_rounds(seed, count, most=7):
    """Rounds with moves, some of them inferred, many with equal numbers and fractions among them."""
    chance = random.Random(seed)
    for _ in range(count):
        many = chance.randint(1, most)
        reach = chance.choice((1, 3, 10))
        points = [(chance.randint(0, reach), Ratio(chance.randint(0, 2 * reach), 2)) for _ in range(many)]
        touched = chance.sample(range(many), chance.randint(0, min(many, 4)))
        size = chance.choice((0, 1, 4))
        moves = {index: (chance.randint(-size, size), Ratio(chance.randint(-size, size), 3)) for index in touched}
        yield points, moves
