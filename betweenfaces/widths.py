"""The greatest and the least width of a text, and where it is wider or narrower than a limit."""

from betweenfaces.asking import check_text
from betweenfaces.extremes import extreme
from betweenfaces.grids import corners_of
from betweenfaces.nearby import places_over
from betweenfaces.pens import PenTable
from betweenfaces.ratios import Ratio
from betweenfaces.settings import Setting


def widest(design, text):
    """The greatest width of a text, a setting at which it is met or near which it is, and whether it is met."""
    return _bound(design, text, Ratio(1))


def narrowest(design, text):
    """The least width of a text, likewise."""
    return _bound(design, text, Ratio(-1))


def wider(design, text, limit):
    """A setting at which a text is wider than a limit, or None."""
    return _beyond(design, text, limit, Ratio(1))


def narrower(design, text, limit):
    """A setting at which a text is narrower than a limit, or None."""
    return _beyond(design, text, limit, Ratio(-1))


def _bound(design, text, sign):
    """The bound of the widths of a text on the side of a sign."""
    check_text(design.stock, text)
    table = PenTable(design.stock, text)
    value, places, met = extreme(table, sign)
    return value, Setting.of(places), met


def _beyond(design, text, limit, sign):
    """A setting at which the width of a text is beyond a limit on the side of a sign, or None."""
    check_text(design.stock, text)
    table = PenTable(design.stock, text)
    bound = Ratio.of(limit) * sign
    for cell in table.all_cells():
        values = [table.width_in(cell, corner) * sign for corner in corners_of(cell)]
        places = places_over(table.stops, table.marks, cell, values, bound)
        if places is not None:
            return Setting.of(dict(zip(table.order, places)))
    return None
