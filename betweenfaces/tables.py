"""Tables of what a thing has for values at the corners of cells, continued from these.

In a table the places of each axis, by the order of the names, have numbers. A cell is a tuple of pairs of such numbers,
low and high, equal for a single marked place; a corner is a tuple of such numbers. Values are told flatly: the numbers
of points of the rounds, then all numbers as integers, and their bottom.
"""

from betweenfaces.blends import flat, in_pairs
from betweenfaces.lists import choices_of
from betweenfaces.ratios import Ratio, ascending, whole
from betweenfaces.raws import combined, raw_places, span_insides
from betweenfaces.settings import Setting
from betweenfaces.sheets import Sheet


class RawTable:
    """The values of a thing in its raw cells, or in these cut at more places, which are no marks."""

    def __init__(self, stock, thing, more=None):
        self._stock = stock
        self._thing = thing
        raw = raw_places(stock, thing)
        told = [_with_more(raw[name], [] if more is None else more.get(name, [])) for name in raw]
        self.order = list(raw)
        self.is_pair = len(thing) == 2
        self.stops = [[place for place, _ in places] for places in told]
        self.marks = [[marked for _, marked in places] for places in told]
        # Cells that meet share their corners, and mostly what a thing is drawn as.
        self._drawn = {}
        self._sheets = {}
        self._values = {}

    def continued(self, cell, corner):
        """The value at a corner, continued from a cell; its lists are new."""
        return self._sheet(corner).value(self.drawn(cell))

    def told(self, cell, corner):
        """The same, told flatly."""
        drawn = self.drawn(cell)
        if (drawn, corner) not in self._values:
            self._values[(drawn, corner)] = flat_value(self._sheet(corner).value(drawn))
        return self._values[(drawn, corner)]

    def drawn(self, cell):
        """What the thing is drawn as in a cell."""
        if cell not in self._drawn:
            places = {}
            for name, stops, (low, high) in zip(self.order, self.stops, cell):
                places[name] = (stops[low] + stops[high]) * Ratio(1, 2)
            self._drawn[cell] = self._stock.drawn_as(self._stock.inner(places), self._thing)
        return self._drawn[cell]

    def _sheet(self, corner):
        """All letters at a corner."""
        if corner not in self._sheets:
            places = {name: stops[at] for name, stops, at in zip(self.order, self.stops, corner)}
            self._sheets[corner] = Sheet(self._stock, self._stock.inner(places))
        return self._sheets[corner]


def flat_value(value):
    """A value, told flatly."""
    if isinstance(value, Ratio):
        return (), [value.top], value.bottom
    rounds, width = value
    points = [point for points in rounds for point in points]
    tops, bottom = whole(flat(points) + [width])
    return tuple([len(points) for points in rounds]), tops, bottom


def value_of(shape, tops, bottom, is_pair):
    """The value of a letter, or of a pair, that is told flatly."""
    if is_pair:
        return Ratio(tops[0], bottom)
    points = in_pairs(tops[:-1], bottom)
    rounds = []
    first = 0
    for many in shape:
        rounds.append(points[first:first + many])
        first = first + many
    return rounds, Ratio(tops[-1], bottom)


def spans_between(marks):
    """The ascending list of the spans, pairs of numbers of places, that so marked places make."""
    spans = []
    for at, marked in enumerate(marks):
        if marked:
            spans.append((at, at))
        if at + 1 < len(marks):
            spans.append((at, at + 1))
    return spans


def corners_of(cell):
    """The list of the corners of a cell, in order."""
    return choices_of([[low] if low == high else [low, high] for low, high in cell])


def inside_of(order, stops, cell):
    """The list of the settings within a cell of these axes and places that tell everything about it."""
    insides = {}
    for name, places, (low, high) in zip(order, stops, cell):
        insides[name] = span_insides((places[low], True, places[high], True))
    return [Setting.of(places) for places in combined(insides)]


def _with_more(places, more):
    """Raw places and marks, and more places, ascending."""
    marks = [place for place, marked in places if marked]
    stops = ascending([place for place, _ in places] + more)
    return [(stop, stop in marks) for stop in stops]
