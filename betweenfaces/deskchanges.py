"""The changes that the lines of a desk make to its design."""

from betweenfaces.cutting import cut
from betweenfaces.flatten import flattened
from betweenfaces.leaving import without
from betweenfaces.plain import plain
from betweenfaces.rooms import Room
from betweenfaces.sparse import sparse


def _cut(design, name, *places):
    """Cut to a span of an axis: (low, high) or (low, home, high)."""
    return cut(design, Room.of({name: places}))


def _pin(design, name, place):
    """Cut to a pin."""
    return cut(design, Room.of({name: place}))


def _home(design, name, place):
    """Cut to the whole axis with another home."""
    axis = design.axis(name)
    return cut(design, Room.of({name: (axis.least, place, axis.most)}))


def _plain(design):
    """Written plainly."""
    return plain(design)


def _sparse(design):
    """With the fewest touched points."""
    return sparse(design)


def _flatten(design, names):
    """With letters that have no parts."""
    return flattened(design, list(names))


def _leave(design, names):
    """Without some letters."""
    return without(design, list(names))


CHANGES = {"cut": _cut, "pin": _pin, "home": _home, "plain": _plain, "sparse": _sparse, "flatten": _flatten,
           "leave": _leave}
