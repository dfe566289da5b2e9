"""Places within a cell at which what is more than a limit at a corner is so still.

What is looked at is on a straight line along each axis within the cell. A corner need not belong to its cell.
"""

from betweenfaces.grids import corners_of
from betweenfaces.ratios import Ratio, least


def places_over(stops, marks, cell, values, limit):
    """The list of the places on all axes of a setting in a cell at which something is more than a limit.

    Its values at the corners, in order, are told. If it is nowhere more in the cell, the result is None.
    """
    over = [number for number, value in enumerate(values) if limit.under(value)]
    if not over:
        return None
    corner, value = corners_of(cell)[over[0]], values[over[0]]
    away = [low != high and own[at] for (low, high), own, at in zip(cell, marks, corner)]
    part = _part(value, least(values), limit, len([1 for one in away if one]))
    places = []
    for (low, high), own, at, is_away in zip(cell, stops, corner, away):
        way = own[low + high - at] - own[at]
        places.append(own[at] + way * part if is_away else own[at])
    return places


def place_over(span, values, limit):
    """A place in a span at which something is more than a limit, from its values at the low and the high."""
    low, with_low, high, with_high = span
    return places_over([[low, high]], [[not with_low, not with_high]], ((0, 1),), values, limit)[0]


def _part(value, floor, limit, many):
    """How far to go along so many axes, from a corner with this value, so that it stays over the limit.

    Nowhere in the cell it is under the floor. Each step leaves at least that share of what the corner has over the
    floor which it leaves of the way.
    """
    half = Ratio(1, 2)
    if many == 0 or value == floor:
        return half
    part = (value - limit).over((value - floor) * Ratio(2 * many))
    return half if half.under(part) else part
