"""The letters of a design at one setting, and at several."""

from betweenfaces.ratios import Ratio


class Sheet:
    """The outlines and widths of letters, and the shifts of pairs, at inner places; swaps do not count."""

    def __init__(self, stock, inner):
        self._stock = stock
        self._inner = inner
        # A letter may be asked for often: in a text, as a part, and at a corner of many cells.
        self._outlines = {}
        self._widths = {}
        self._shifts = {}

    def outline(self, name):
        """The outline of a letter, a new list of new lists of points."""
        return [list(points) for points in self._kept_outline(name)]

    def width_of(self, name):
        """The width of a letter."""
        if name not in self._widths:
            self._widths[name] = self._stock.glyphs[name].width.at(self._inner)
        return self._widths[name]

    def shift(self, pair):
        """The shift of a pair."""
        if pair not in self._stock.shifts:
            return Ratio(0)
        if pair not in self._shifts:
            self._shifts[pair] = self._stock.shifts[pair].at(self._inner)
        return self._shifts[pair]

    def value(self, drawn):
        """The value of a thing that is drawn as this letter, or these two."""
        if len(drawn) == 2:
            return self.shift(drawn)
        return self.outline(drawn), self.width_of(drawn)

    def pens(self, drawn):
        """The places of the pen at the letters of a text that is drawn as these, and at its end."""
        pens = [Ratio(0)]
        for index, name in enumerate(drawn):
            if index > 0:
                pens[-1] = pens[-1] + self.shift(drawn[index - 1:index + 1])
            pens.append(pens[-1] + self.width_of(name))
        return pens

    def picture(self, drawn):
        """The picture of a text that is drawn as these letters."""
        pens = self.pens(drawn)
        rounds = []
        for name, pen in zip(drawn, pens):
            rounds.extend([[(x + pen, y) for x, y in points] for points in self._kept_outline(name)])
        return rounds, pens[-1]

    def _kept_outline(self, name):
        """The outline of a letter, as it is kept."""
        if name not in self._outlines:
            letter = self._stock.glyphs[name]
            spots = letter.moved(self._inner)
            rounds = split_rounds(letter, spots)
            offsets = spots[len(spots) - len(letter.parts):]
            for (part, _, _), (x, y) in zip(letter.parts, offsets):
                rounds.extend(moved_rounds(self._kept_outline(part), x, y))
            self._outlines[name] = rounds
        return self._outlines[name]


class Shelf:
    """The sheets of a design at told places, for all that is asked of it at once: each of them is made but once."""

    def __init__(self, stock):
        self.stock = stock
        self._sheets = {}

    def sheet(self, places):
        """The sheet at the told places of a Setting or a dict."""
        told = [places[axis.name] for axis in self.stock.scales]
        key = tuple([(place.top, place.bottom) for place in told])
        if key not in self._sheets:
            self._sheets[key] = Sheet(self.stock, self.stock.inner(places))
        return self._sheets[key]


def split_rounds(letter, spots):
    """The rounds of a letter with their points at the places of its spots."""
    rounds = []
    first = 0
    for points in letter.rounds:
        rounds.append(spots[first:first + len(points)])
        first = first + len(points)
    return rounds


def moved_rounds(rounds, by_x, by_y):
    """New rounds with their points moved by a pair of Ratios."""
    return [[(x + by_x, y + by_y) for x, y in points] for points in rounds]
