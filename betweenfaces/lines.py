"""The places on an axis at which a text is just so wide."""

from betweenfaces.asking import check_axes, check_axis, check_text
from betweenfaces.lists import number_of
from betweenfaces.pens import PenTable
from betweenfaces.ratios import Ratio, is_number


def settings_of_width(design, text, limit, axis, setting):
    """Yields the ascending pieces (low, with_low, high, with_high) of an axis at which a text is just so wide."""
    for piece in _pieces(design.stock, text, limit, axis, setting):
        yield piece


def check_pieces(design, text, limit, axis, setting, thing):
    """Whether any value is a list or tuple of just these pieces, in order."""
    pieces = _pieces(design.stock, text, limit, axis, setting)
    if not isinstance(thing, (list, tuple)) or not all([_is_piece(piece) for piece in thing]):
        return False
    return [(Ratio.of(low), with_low, Ratio.of(high), with_high) for low, with_low, high, with_high in thing] == pieces


def _pieces(stock, text, limit, axis, setting):
    """The list of these pieces."""
    check_axis(stock, axis)
    check_axes(stock, setting)
    check_text(stock, text)
    table = PenTable(stock, text)
    places = {name: setting[name] for name in setting}
    pieces = []
    for span, first, last in table.profile(number_of(table.order, axis), places):
        for piece in _pieces_in(span, first, last, Ratio.of(limit)):
            if pieces and _do_meet(pieces[-1], piece):
                before = pieces.pop()
                piece = (before[0], before[1], piece[2], piece[3])
            pieces.append(piece)
    return pieces


def _pieces_in(span, first, last, limit):
    """The list of the piece of a span, if there is one, on which a width that goes from first to last is limit."""
    low, with_low, high, with_high = span
    if first == last:
        return [span] if first == limit else []
    part = (limit - first).over(last - first)
    at = low + (high - low) * part
    inside = low.under(at) and at.under(high)
    if inside or (at == low and with_low) or (at == high and with_high):
        return [(at, True, at, True)]
    return []


def _do_meet(before, behind):
    """Whether two pieces meet in a place that belongs to one of them."""
    return before[2] == behind[0] and (before[3] or behind[1])


def _is_piece(value):
    """Whether any value is a tuple of two numbers, each with a bool behind it."""
    if not isinstance(value, tuple) or len(value) != 4 or not is_number(value[0]) or not is_number(value[2]):
        return False
    return isinstance(value[1], bool) and isinstance(value[3], bool)
