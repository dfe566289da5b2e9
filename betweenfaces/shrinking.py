"""The plain design of a room, told by what a design is made of."""

from betweenfaces.axes import Axis
from betweenfaces.plainrows import letter_on, quantity_on
from betweenfaces.ratios import greatest, least
from betweenfaces.tracks import Ground


def shrunk(stock, spans):
    """The axes, letters, pairs and swaps of the plain design in a room of spans (low, home, high) for all axes."""
    ground = Ground(stock.scales, spans)
    axes = []
    for name, (low, home, high) in spans.items():
        if low.under(high):
            axes.append(Axis(name, least=low, home=home, most=high))
    letters = {name: letter_on(ground, letter) for name, letter in stock.glyphs.items()}
    shifts = {pair: quantity_on(ground, shift) for pair, shift in stock.shifts.items()}
    pairs = {pair: shift for pair, shift in shifts.items() if shift.home or shift.rows}
    return axes, letters, pairs, _swaps_in(stock, spans)


def _swaps_in(stock, spans):
    """The swaps whose boxes hold somewhere in a room, with what is left of their boxes there."""
    swaps = []
    for box, table in stock.rules:
        stretches = {axis.name: _told_stretch(axis, box[axis.name]) for axis in stock.scales if axis.name in box}
        if all([_meet(stretch, spans[name]) for name, stretch in stretches.items()]):
            common = {name: _common(stretch, spans[name]) for name, stretch in stretches.items()}
            left = {name: ends for name, ends in common.items() if ends != (spans[name][0], spans[name][2])}
            swaps.append((left, table))
    return swaps


def _told_stretch(axis, stretch):
    """The ends of the told places whose inner places lie in a stretch."""
    low, high = stretch
    return axis.back(low, high)


def _meet(stretch, span):
    """Whether a stretch of told places has a place in common with a span (low, home, high)."""
    return not span[2].under(stretch[0]) and not stretch[1].under(span[0])


def _common(stretch, span):
    """The ends of what a stretch and a span have in common."""
    return greatest([stretch[0], span[0]]), least([stretch[1], span[2]])
