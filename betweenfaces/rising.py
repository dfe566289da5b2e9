"""Whether a text never gets narrower along an axis."""

from betweenfaces.asking import check_axis, check_text, ends_of, is_setting
from betweenfaces.falls import fall_along, places_with_a_fall
from betweenfaces.lists import number_of
from betweenfaces.pens import PenTable, width_at
from betweenfaces.settings import Setting


def rises(design, text, axis):
    """Two settings along an axis at the second of which a text is narrower; None if there are none."""
    check_axis(design.stock, axis)
    check_text(design.stock, text)
    table = PenTable(design.stock, text)
    side = number_of(table.order, axis)
    others = places_with_a_fall(table, side)
    if others is None:
        return None
    first, second = fall_along(table.profile(side, others))
    return Setting.of({**others, axis: first}), Setting.of({**others, axis: second})


def check_fall(design, text, axis, thing):
    """Whether any value is a tuple of two such settings, the one with the lesser place first."""
    check_axis(design.stock, axis)
    check_text(design.stock, text)
    if not isinstance(thing, tuple) or len(thing) != 2:
        return False
    ends = ends_of(design.stock.scales)
    first, second = thing
    if not is_setting(ends, first) or not is_setting(ends, second):
        return False
    if first.without(axis) != second.without(axis) or not first[axis].under(second[axis]):
        return False
    return width_at(design.stock, text, second).under(width_at(design.stock, text, first))
