"""Told forms, read as tables."""

from betweenfaces.blends import blend
from betweenfaces.grids import spans_between
from betweenfaces.lists import number_of
from betweenfaces.ratios import Ratio, share
from betweenfaces.tables import flat_value, value_of


class ToldTable:
    """The values in the cells of a told form."""

    def __init__(self, axes, table):
        self.order = [name for name, _ in axes]
        self.stops = [[place for place, _ in places] for name, places in axes]
        self.marks = [[jump for _, jump in places] for name, places in axes]
        self.is_pair = isinstance(table[0][0], Ratio)
        self._spans = [spans_between(marks) for marks in self.marks]
        self._table = table
        self._cells = {}

    def told(self, cell, corner):
        """The value at a corner of a cell, told flatly."""
        number = 0
        for (low, high), at in zip(cell, corner):
            if low != high:
                number = 2 * number + (1 if at == high else 0)
        return self._corners(cell)[number]

    def value_at(self, setting):
        """The value at a setting."""
        shape, tops, bottom = self.continued(self.cell_with(setting), setting)
        return value_of(shape, tops, bottom, self.is_pair)

    def cell_with(self, places):
        """The cell to which told places belong."""
        return tuple([_span_with(stops, spans, places[name])
                      for name, stops, spans in zip(self.order, self.stops, self._spans)])

    def continued(self, cell, places):
        """The value at told places, continued from a cell, told flatly, but not in lowest terms."""
        values = self._corners(cell)
        weights = self._weights(cell, places)
        scalars = [weight * Ratio(1, values[number][2]) for number, weight in weights]
        tops, bottom = blend(scalars, [values[number][1] for number, _ in weights])
        return values[0][0], tops, bottom

    def _weights(self, cell, places):
        """The pairs (number of a corner, its weight) of the corners of a cell that count at told places."""
        weights = [(0, Ratio(1))]
        for name, stops, (low, high) in zip(self.order, self.stops, cell):
            if low != high:
                part = share(stops[low], places[name], stops[high])
                parts = [(side, own) for side, own in ((0, Ratio(1) - part), (1, part)) if own]
                weights = [(2 * number + side, weight * own) for number, weight in weights for side, own in parts]
        return weights

    def _corners(self, cell):
        """The values at the corners of a cell, told flatly."""
        if cell not in self._cells:
            number = 0
            for spans, span in zip(self._spans, cell):
                number = number * len(spans) + number_of(spans, span)
            self._cells[cell] = [flat_value(value) for value in self._table[number]]
        return self._cells[cell]


def _span_with(stops, spans, place):
    """The first span, a pair of numbers of stops, to which a place belongs."""
    held = [(low, high) for low, high in spans if not place.under(stops[low]) and not stops[high].under(place)]
    # A jump has a span of its own, which stands between those that end there.
    alone = [(low, high) for low, high in held if low == high]
    return alone[0] if alone else held[0]
