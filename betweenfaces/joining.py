"""Designs with the letters of two."""

from betweenfaces.errors import InvalidJoin
from betweenfaces.shrinking import shrunk
from betweenfaces.tracks import whole_spans


def joined(one, other):
    """The plain design with the letters of both."""
    spans = whole_spans(one.stock.scales)
    theirs = whole_spans(other.stock.scales)
    shared = [name for name in spans if name in theirs]
    for name in shared:
        if (spans[name][0], spans[name][2]) != (theirs[name][0], theirs[name][2]):
            raise InvalidJoin(name)
    for name in one:
        if name in other:
            raise InvalidJoin(name)
    for name in shared:
        theirs[name] = spans[name]
    axes, letters, pairs, swaps = shrunk(one.stock, spans)
    more_axes, more_letters, more_pairs, more_swaps = shrunk(other.stock, theirs)
    axes = axes + [axis for axis in more_axes if axis.name not in shared]
    return one.remade(axes, {**letters, **more_letters}, {**pairs, **more_pairs}, swaps + more_swaps)
