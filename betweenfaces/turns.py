"""Where things jump and bend, by tables of their values.

The axis looked at is told by its number, the side; a crossing is a cell of the other axes, and a corner one of its
corners.
"""

from betweenfaces.grids import corners_of, spans_between
from betweenfaces.lists import choices_of, with_item, without_item
from betweenfaces.ratios import Ratio, whole


def crossings(table, side):
    """The list of the cells of the axes other than that of the side."""
    spans = [spans_between(marks) for marks in table.marks]
    return choices_of(without_item(spans, side))


def jumps(table, side, at):
    """Whether the thing jumps at a place, for some places on the other axes."""
    for crossing in crossings(table, side):
        for corner in corners_of(crossing):
            if jumps_at(table, side, at, crossing, corner):
                return True
    return False


def bends(table, side, at):
    """Whether the thing bends at a place within, at which it does not jump, for some places on the other axes."""
    for crossing in crossings(table, side):
        for corner in corners_of(crossing):
            if bends_at(table, side, at, crossing, corner):
                return True
    return False


def jumps_at(table, side, at, crossing, corner):
    """Whether the values at a place, continued from all sides, are not equal at a corner of a crossing."""
    spans = [(at - 1, at)] if at > 0 else []
    if table.marks[side][at]:
        spans.append((at, at))
    if at + 1 < len(table.stops[side]):
        spans.append((at, at + 1))
    told = [table.told(with_item(crossing, side, span), with_item(corner, side, at)) for span in spans]
    return any([value != told[0] for value in told])


def bends_at(table, side, at, crossing, corner):
    """Whether some number has another slope below a place than above it at a corner of a crossing."""
    below, above = with_item(crossing, side, (at - 1, at)), with_item(crossing, side, (at, at + 1))
    ends = [(below, at - 1), (below, at), (above, at + 1)]
    told = [table.told(cell, with_item(corner, side, stop)) for cell, stop in ends]
    stops = table.stops[side]
    rise, fall = Ratio(1).over(stops[at] - stops[at - 1]), Ratio(1).over(stops[at + 1] - stops[at])
    bottoms = [Ratio(1, bottom) for _, _, bottom in told]
    (one, two, three), _ = whole([rise * bottoms[0], -(rise + fall) * bottoms[1], fall * bottoms[2]])
    tops = [numbers for _, numbers, _ in told]
    return any([one * before + two * here + three * behind for before, here, behind in zip(tops[0], tops[1], tops[2])])


def kept_places(table):
    """For each axis the list of (number of the place, whether it is a jump) of the places that the form has."""
    kept = []
    for side, stops in enumerate(table.stops):
        own = []
        for at in range(len(stops)):
            jump = table.marks[side][at] and jumps(table, side, at)
            if jump or at in (0, len(stops) - 1) or bends(table, side, at):
                own.append((at, jump))
        kept.append(own)
    return kept
