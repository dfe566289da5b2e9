"""Arcs of a round: from which points the moves between them are inferred rightly."""

from betweenfaces.infer import inferred
from betweenfaces.points import is_still
from betweenfaces.ratios import whole


def right_arcs(points, moves):
    """For each point of a round a list: item j tells whether the arc to the point j places behind it is right.

    Item 0 only makes the other items stand at their numbers.
    """
    sides = [_side([point[at] for point in points], [move[at] for move in moves]) for at in (0, 1)]
    many = len(points)
    return [[_is_right(sides, start, places) for places in range(many + 1)] for start in range(many)]


def are_still(moves):
    """Whether all moves are (0, 0)."""
    return all([is_still(move) for move in moves])


def _side(homes, moves):
    """The pairs (home, move) of the numbers of a round, its x or its y, as integers, for these are compared fast."""
    places, _ = whole(homes)
    tops, _ = whole(moves)
    return list(zip(places, tops))


def _is_right(sides, start, places):
    """Whether the arc from a point over so many places is right, in x and in y."""
    for side in sides:
        many = len(side)
        end = (start + places) % many
        for step in range(1, places):
            home, move = side[(start + step) % many]
            top, bottom = inferred(side[start], side[end], home)
            if top != move * bottom:
                return False
    return True
