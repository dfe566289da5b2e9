"""The parts of axes on which something is written plainly, and the places there at which it may turn."""

from betweenfaces.lists import number_of
from betweenfaces.ratios import ascending
from betweenfaces.raws import told_places


class Track:
    """A stretch of an axis with a home, or a pin, and the told places between which some tents are straight."""

    def __init__(self, axis, span, tents):
        low, home, high = span
        turns = [place for place in told_places(axis, tents) if low.under(place) and place.under(high)]
        self.stops = ascending([low, home, high] + turns)
        self.home = number_of(self.stops, home)
        self._inner = [axis.inner(stop) for stop in self.stops]

    def scalars(self, tent):
        """The list of the scalars of a tent at the stops."""
        return [tent(place) for place in self._inner]


class Ground:
    """The axes of a design, each with the span (low, home, high) of a room; those of a pin are equal."""

    def __init__(self, scales, spans):
        self._scales = sorted(scales, key=lambda axis: axis.name)
        self._spans = spans

    def tracks(self, reaches):
        """A dict of the tracks of the axes of some reaches."""
        tracks = {}
        for axis in self._scales:
            tents = [reach[axis.name] for reach in reaches if axis.name in reach]
            if tents:
                tracks[axis.name] = Track(axis, self._spans[axis.name], tents)
        return tracks


def whole_spans(scales):
    """The spans of the whole axes."""
    return {axis.name: (axis.least, axis.home, axis.most) for axis in scales}
