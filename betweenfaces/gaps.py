"""How far the points of two neighbouring letters are from each other, along x."""

from betweenfaces.grids import Grid, corners_of
from betweenfaces.lists import number_of
from betweenfaces.nearby import places_over
from betweenfaces.ratios import greatest, least
from betweenfaces.raws import places_for
from betweenfaces.sheets import Sheet


class Sides:
    """The x of the points of a left and a right letter, where the pen stands at 0 at the left one."""

    def __init__(self, sheet, drawn):
        way = sheet.width_of(drawn[0]) + sheet.shift(drawn)
        self.lefts = [x for points in sheet.outline(drawn[0]) for x, _ in points]
        self.rights = [x + way for points in sheet.outline(drawn[1]) for x, _ in points]
        # A letter without points is clear of each other one.
        self.gap = least(self.rights) - greatest(self.lefts) if self.lefts and self.rights else None

    def nearest(self):
        """The numbers of a left and a right point between which the gap is least."""
        return number_of(self.lefts, greatest(self.lefts)), number_of(self.rights, least(self.rights))


class GapTable(Grid):
    """The sides of two neighbouring letters in the cells in which they are drawn as the same letters."""

    def __init__(self, shelf, pair):
        stock = shelf.stock
        reaches = stock.reaches(pair) + stock.reaches(pair[0]) + stock.reaches(pair[1])
        super().__init__(shelf, pair, places_for(stock, reaches, stock.boxes(pair)))
        # Cells that meet mostly share what the letters are drawn as.
        self._sides = {}

    def places_within(self, gap):
        """A dict of places at which the letters are nearer to each other than a gap; None if there are none."""
        for cell in self.all_cells():
            for corner in corners_of(cell):
                sides = self._sides_at(cell, corner)
                if sides.gap is not None and sides.gap.under(gap):
                    return self._places_in(cell, sides.nearest(), gap)
        return None

    def _places_in(self, cell, points, gap):
        """The same within a cell at a corner of which these two points are nearer than the gap."""
        left, right = points
        sides = [self._sides_at(cell, corner) for corner in corners_of(cell)]
        places = places_over(self.stops, self.marks, cell, [one.lefts[left] - one.rights[right] for one in sides], -gap)
        return dict(zip(self.order, places))

    def _sides_at(self, cell, corner):
        """The sides at a corner, continued from a cell."""
        drawn = self.drawn(cell)
        if (drawn, corner) not in self._sides:
            self._sides[(drawn, corner)] = Sides(self.sheet(corner), drawn)
        return self._sides[(drawn, corner)]


def gap_at(stock, pair, places):
    """The least gap between the points of two neighbouring letters at told places; None if one has no points."""
    inner = stock.inner(places)
    sides = Sides(Sheet(stock, inner), stock.drawn_as(inner, pair))
    return sides.gap
