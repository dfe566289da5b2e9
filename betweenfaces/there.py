"""How a thing turns at one place of an axis, with told places on the others."""

from betweenfaces.grids import merged_places
from betweenfaces.lists import number_of
from betweenfaces.raws import raw_places
from betweenfaces.tables import ThingTable
from betweenfaces.turns import bends_at, jumps_at


def turn_there(shelf, thing, place, setting):
    """How a thing turns at a place, a pair (name of the axis, number), at a Setting of the other axes.

    The word is "jump" or "bend"; an empty one if it does not turn there.
    """
    name, number = place
    raw = raw_places(shelf.stock, thing)
    here = {other: [(setting[other], False)] if other in setting else [] for other in raw}
    table = ThingTable(shelf, thing, merged_places(raw, here))
    side = number_of(table.order, name)
    if number not in table.stops[side]:
        return ""
    at = number_of(table.stops[side], number)
    crossing, corner = _around(table, side, setting)
    if jumps_at(table, side, at, crossing, corner):
        return "jump"
    inside = 0 < at < len(table.stops[side]) - 1
    return "bend" if inside and bends_at(table, side, at, crossing, corner) else ""


def _around(table, side, setting):
    """The cell of the other axes in which a setting lies, and its corner at the setting."""
    crossing = []
    corner = []
    for name, stops, marks in zip(table.order, table.stops, table.marks):
        if name != table.order[side]:
            at = number_of(stops, setting[name])
            ends = (at, at + 1) if at + 1 < len(stops) else (at - 1, at)
            crossing.append((at, at) if marks[at] else ends)
            corner.append(at)
    return tuple(crossing), tuple(corner)
