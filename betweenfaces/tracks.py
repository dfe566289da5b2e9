"""The parts of axes on which something is written plainly, and the places there at which it may turn."""

from betweenfaces.blends import flat
from betweenfaces.lists import number_of
from betweenfaces.ratios import ascending, put_into
from betweenfaces.raws import told_places


class Track:
    """Ascending told places, the stops, between which some tents of an axis are straight, and the index of the home.

    Stops beyond the ends of the axis stand for these ends.
    """

    def __init__(self, axis, stops, home):
        self.stops = stops
        self.home = number_of(stops, home)
        self._inner = [axis.inner(put_into(axis.least, stop, axis.most)) for stop in stops]

    def scalars(self, tent):
        """The list of the scalars of a tent at the stops."""
        return [tent(place) for place in self._inner]


class Ground:
    """The axes of a design, each with the span (low, home, high) of a room; those of a pin are equal."""

    def __init__(self, scales, spans):
        self._scales = sorted(scales, key=lambda axis: axis.name)
        self._spans = spans

    def tracks(self, reaches):
        """A dict of the tracks of the axes of some reaches."""
        tracks = {}
        for axis in self._scales:
            tents = tents_on(axis.name, reaches)
            if tents:
                low, home, high = self._spans[axis.name]
                turns = [place for place in told_places(axis, tents) if low.under(place) and place.under(high)]
                tracks[axis.name] = Track(axis, ascending([low, home, high] + turns), home)
        return tracks


def tents_on(name, reaches):
    """The list of the tents that some reaches have on an axis."""
    return [reach[name] for reach in reaches if name in reach]


def quantity_rows(tracks, quantity):
    """The list of the rows of a quantity: what the scalars are at the stops, and a list of the delta alone."""
    return [(_scalars_of(tracks, reach), [delta]) for reach, delta in quantity.rows]


def letter_rows(tracks, letter):
    """The list of the rows of a letter: what the scalars are at the stops, and the numbers of all moves."""
    return [(_scalars_of(tracks, row.reach), flat(row.filled(letter))) for row in letter.rows]


def whole_spans(scales):
    """The spans of the whole axes."""
    return {axis.name: (axis.least, axis.home, axis.most) for axis in scales}


def _scalars_of(tracks, reach):
    """A dict that gives each axis of a reach the list of the scalars of its tent at the stops."""
    scalars = {}
    for name in reach:
        track = tracks[name]
        scalars[name] = track.scalars(reach[name])
    return scalars
