"""Designs cut to smaller rooms."""

from betweenfaces.errors import InvalidRoom, UnknownAxis
from betweenfaces.ratios import put_into
from betweenfaces.shrinking import shrunk
from betweenfaces.tracks import whole_spans


def cut(design, room):
    """The plain design of a smaller room."""
    spans = whole_spans(design.stock.scales)
    for name in room:
        if name not in spans:
            raise UnknownAxis(name)
    for axis in design.stock.scales:
        if axis.name in room:
            low, home, high = room[axis.name]
            if not axis.holds(low) or not axis.holds(high):
                raise InvalidRoom(axis.name)
            spans[axis.name] = (low, put_into(low, axis.home, high) if home is None else home, high)
    axes, letters, pairs, swaps = shrunk(design.stock, spans)
    return design.remade(axes, letters, pairs, swaps)
