"""Checks, of any value, that it tells the greatest, or the least, width of a text."""

from betweenfaces.asking import check_text, ends_of, is_setting
from betweenfaces.extremes import extreme
from betweenfaces.lists import choices_of
from betweenfaces.pens import PenTable, width_at, width_drawn
from betweenfaces.ratios import Ratio, is_number, is_within


def check_widest(design, text, thing):
    """Whether any value is a tuple that tells the greatest width of a text."""
    return _is_bound(design.stock, text, thing, Ratio(1))


def check_narrowest(design, text, thing):
    """Whether any value is a tuple that tells the least width of a text."""
    return _is_bound(design.stock, text, thing, Ratio(-1))


def _is_bound(stock, text, thing, sign):
    """Whether any value is a tuple (value, setting, whether it is met) for the bound on the side of a sign."""
    check_text(stock, text)
    if not isinstance(thing, tuple) or len(thing) != 3:
        return False
    value, setting, told = thing
    if not is_number(value) or not is_setting(ends_of(stock.scales), setting) or not isinstance(told, bool):
        return False
    table = PenTable(stock, text)
    bound, _, met = extreme(table, sign)
    if Ratio.of(value) != bound or told != met:
        return False
    return width_at(stock, text, setting) == bound if met else _is_near(table, setting, bound)


def _is_near(table, setting, bound):
    """Whether the widths in some cell come as near to a bound as one likes, near a setting."""
    spans = []
    for name, stops, marks in zip(table.order, table.stops, table.marks):
        spans.append(_spans_around(stops, marks, setting[name]))
    drawn = sorted(set([table.drawn(cell) for cell in choices_of(spans)]))
    return any([width_drawn(table.stock, letters, setting) == bound for letters in drawn])


def _spans_around(stops, marks, place):
    """The list of the spans to which a place belongs, or at an end of which it lies."""
    spans = [(at, at) for at, stop in enumerate(stops) if marks[at] and stop == place]
    return spans + [(at, at + 1) for at in range(len(stops) - 1) if is_within(stops[at], place, stops[at + 1])]
