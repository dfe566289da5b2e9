"""Checks, of any value, that touched points give all moves, and that no fewer ones do."""

from betweenfaces.arcs import are_still, right_arcs
from betweenfaces.infer import infer
from betweenfaces.points import point_of
from betweenfaces.ratios import is_integer


def check_touched(points, moves, thing):
    """Whether any value is an ascending tuple of points of a round from which all moves are inferred."""
    if not isinstance(thing, tuple) or not all([is_integer(index) for index in thing]):
        return False
    if not all([0 <= index < len(points) for index in thing]):
        return False
    if not all([before < behind for before, behind in zip(thing, thing[1:])]):
        return False
    return infer(points, {index: moves[index] for index in thing}) == [point_of(move) for move in moves]


def check_fewest(points, moves, thing):
    """Whether any value is a pair of touched points and of potentials, which show that no fewer are enough."""
    if not isinstance(thing, tuple) or len(thing) != 2 or not check_touched(points, moves, thing[0]):
        return False
    touched, potentials = thing
    if not isinstance(potentials, tuple):
        return False
    if are_still(moves):
        return len(touched) == 0 and len(potentials) == 0
    if len(potentials) != len(points):
        return False
    arcs = right_arcs(points, moves)
    return all([_is_potential(arcs, start, numbers, len(touched)) for start, numbers in enumerate(potentials)])


def _is_potential(arcs, start, numbers, fewest):
    """Whether any value shows that no path of fewer right arcs leads from a point around to itself."""
    many = len(arcs)
    if not isinstance(numbers, tuple) or len(numbers) != many + 1 or not all([is_integer(one) for one in numbers]):
        return False
    if numbers[0] != 0 or numbers[many] < fewest:
        return False
    for at in range(many):
        right = arcs[(start + at) % many]
        if any([numbers[behind] > numbers[at] + 1 for behind in range(at + 1, many + 1) if right[behind - at]]):
            return False
    return True
