"""Tables of what a thing has for values at the corners of cells, continued from these; told flatly.

Values are told flatly as the numbers of points of the rounds, all numbers as integers, and their bottom.
"""

from betweenfaces.blends import flat, in_pairs
from betweenfaces.grids import Grid
from betweenfaces.ratios import Ratio, whole
from betweenfaces.raws import raw_places


class ThingTable(Grid):
    """The values of a thing in the cells that places make, the raw places of the thing being among these."""

    def __init__(self, shelf, thing, places):
        super().__init__(shelf, thing, places)
        self.is_pair = len(thing) == 2
        # Cells that meet mostly share what a thing is drawn as.
        self._values = {}

    def continued(self, cell, corner):
        """The value at a corner, continued from a cell; its lists are new."""
        sheet = self.sheet(corner)
        return sheet.value(self.drawn(cell))

    def value_inside(self, cell, places):
        """The value at told places within a cell; its lists are new."""
        shelf = self.shelf
        sheet = shelf.sheet(places)
        return sheet.value(self.drawn(cell))

    def told(self, cell, corner):
        """The value at a corner, told flatly."""
        drawn = self.drawn(cell)
        if (drawn, corner) not in self._values:
            sheet = self.sheet(corner)
            self._values[(drawn, corner)] = flat_value(sheet.value(drawn))
        return self._values[(drawn, corner)]


def raw_table(shelf, thing):
    """The table of a thing in its raw cells."""
    return ThingTable(shelf, thing, raw_places(shelf.stock, thing))


def shape_of(value):
    """The tuple of the numbers of points of the rounds of a value; it is empty for that of a pair."""
    return () if isinstance(value, Ratio) else tuple([len(points) for points in value[0]])


def flat_value(value):
    """A value, told flatly."""
    if isinstance(value, Ratio):
        return (), [value.top], value.bottom
    rounds, width = value
    tops, bottom = whole(flat([point for points in rounds for point in points]) + [width])
    return shape_of(value), tops, bottom


def value_of(shape, tops, bottom, is_pair):
    """The value of a letter, or of a pair, that is told flatly."""
    if is_pair:
        return Ratio(tops[0], bottom)
    points = in_pairs(tops[:-1], bottom)
    rounds = []
    first = 0
    for many in shape:
        rounds.append(points[first:first + many])
        first = first + many
    return rounds, Ratio(tops[-1], bottom)
