"""Pairs of numbers: points, moves and knots."""

from betweenfaces.ratios import Ratio, is_number, share


def is_point(value):
    """Whether any value is a tuple of two numbers."""
    return isinstance(value, tuple) and len(value) == 2 and is_number(value[0]) and is_number(value[1])


def point_of(pair):
    """A pair of numbers as a pair of Ratios."""
    return Ratio.of(pair[0]), Ratio.of(pair[1])


def is_still(move):
    """Whether a move leaves its spot where it is."""
    return not Ratio.of(move[0]) and not Ratio.of(move[1])


def on_line(one, other, at):
    """The second number, where the first is `at`, on the straight line through two pairs of Ratios."""
    return one[1] + share(one[0], at, other[0]) * (other[1] - one[1])
