"""The widths of a text in the cells in which its letters are drawn as the same letters."""

from betweenfaces.grids import Grid
from betweenfaces.raws import places_for, span_insides, spans_of
from betweenfaces.sheets import Sheet, Shelf


class PenTable(Grid):
    """The widths of a text in the cells that the places make at which they may turn or jump."""

    def __init__(self, stock, text):
        super().__init__(Shelf(stock), text, places_for(stock, stock.width_reaches(text), stock.boxes(text)))
        # Cells that meet mostly share what the text is drawn as.
        self._widths = {}

    def width_in(self, cell, corner):
        """The width at a corner, continued from a cell."""
        drawn = self.drawn(cell)
        if (drawn, corner) not in self._widths:
            sheet = self.sheet(corner)
            self._widths[(drawn, corner)] = sheet.pens(drawn)[-1]
        return self._widths[(drawn, corner)]

    def profile(self, side, places):
        """The widths along the axis of a side, the places on the others being those of a dict.

        A list of tuples (span, width at its low, width at its high), ascending, both continued from the span.
        """
        name = self.order[side]
        told = []
        for span in spans_of(list(zip(self.stops[side], self.marks[side]))):
            drawn = self.stock.drawn_as(self.stock.inner({**places, name: span_insides(span)[0]}), self.text)
            ends = [width_drawn(self.stock, drawn, {**places, name: place}) for place in (span[0], span[2])]
            told.append((span, ends[0], ends[1]))
        return told


def width_at(stock, text, places):
    """The width of a text at told places."""
    return width_drawn(stock, stock.drawn_as(stock.inner(places), text), places)


def width_drawn(stock, drawn, places):
    """The width, at told places, of a text that is drawn as these letters."""
    sheet = Sheet(stock, stock.inner(places))
    return sheet.pens(drawn)[-1]
