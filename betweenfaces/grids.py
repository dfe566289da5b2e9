"""Grids: places on all axes of a design, and what a text is drawn as in the cells that these make.

In a grid the places of each axis, by the order of the names, have numbers. A cell is a tuple of pairs of such numbers,
low and high, equal for a single marked place; a corner is a tuple of such numbers.
"""

from betweenfaces.lists import choices_of
from betweenfaces.ratios import Ratio, ascending
from betweenfaces.raws import combined, span_insides
from betweenfaces.settings import Setting


class Grid:
    """Places on all axes of a design, with all marks of the letters of a text among those that are marked."""

    def __init__(self, shelf, text, places):
        self.shelf = shelf
        self.stock = shelf.stock
        self.text = text
        self.order = list(places)
        self.stops = [[place for place, _ in own] for own in places.values()]
        self.marks = [[marked for _, marked in own] for own in places.values()]
        # Cells that meet share their corners.
        self._drawn = {}
        self._sheets = {}

    def all_cells(self):
        """The list of the cells, in order."""
        return choices_of([spans_between(marks) for marks in self.marks])

    def drawn(self, cell):
        """What the text is drawn as in a cell."""
        if cell not in self._drawn:
            self._drawn[cell] = self.stock.drawn_as(self.stock.inner(self.middle(cell)), self.text)
        return self._drawn[cell]

    def middle(self, cell):
        """A dict of the told places in the middle of a cell."""
        places = {}
        for name, stops, (low, high) in zip(self.order, self.stops, cell):
            places[name] = (stops[low] + stops[high]) * Ratio(1, 2)
        return places

    def places_at(self, corner):
        """A dict of the told places at a corner."""
        return {name: stops[at] for name, stops, at in zip(self.order, self.stops, corner)}

    def sheet(self, corner):
        """All letters at a corner."""
        if corner not in self._sheets:
            shelf = self.shelf
            self._sheets[corner] = shelf.sheet(self.places_at(corner))
        return self._sheets[corner]


def spans_between(marks):
    """The ascending list of the spans, pairs of numbers of places, that so marked places make."""
    spans = []
    for at, marked in enumerate(marks):
        if marked:
            spans.append((at, at))
        if at + 1 < len(marks):
            spans.append((at, at + 1))
    return spans


def corners_of(cell):
    """The list of the corners of a cell, in order."""
    return choices_of([[low] if low == high else [low, high] for low, high in cell])


def inside_of(order, stops, cell):
    """The list of the settings within a cell of these axes and places that tell everything about it."""
    insides = {}
    for name, places, (low, high) in zip(order, stops, cell):
        insides[name] = span_insides((places[low], True, places[high], True))
    return [Setting.of(places) for places in combined(insides)]


def merged_places(one, other):
    """The places and marks of two dicts of the same axes, taken together."""
    return {name: _merged(one[name], other[name]) for name in one}


def _merged(one, other):
    """The ascending list of tuples (place, whether it is a mark) of two such lists."""
    marks = [place for place, marked in one + other if marked]
    stops = ascending([place for place, _ in one + other])
    return [(stop, stop in marks) for stop in stops]
