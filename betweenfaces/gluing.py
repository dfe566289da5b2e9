"""Designs over two rooms that lie side by side."""

from betweenfaces.asking import check_axis
from betweenfaces.axes import Axis
from betweenfaces.errors import InvalidJoin
from betweenfaces.quantities import Quantity
from betweenfaces.seams import Seam
from betweenfaces.shrinking import shrunk
from betweenfaces.tracks import whole_spans


def glued(one, other, axis):
    """The plain design over two rooms, where the stretch of an axis of the other one begins where that of one ends."""
    check_axis(one.stock, axis)
    check_axis(other.stock, axis)
    if not _do_fit(one.stock, other.stock, axis):
        raise InvalidJoin(axis)
    seam = Seam(one.stock.scales, other.stock.scales, axis)
    axes = [Axis(own.name, least=own.least, home=own.home, most=behind.most)
            for own, behind in zip(one.stock.scales, other.stock.scales)]
    letters = {name: seam.letter(letter, other.stock.glyphs[name]) for name, letter in one.stock.glyphs.items()}
    pairs = _glued_pairs(seam, one.stock.shifts, other.stock.shifts)
    return one.remade(axes, letters, pairs, [])


def _do_fit(one, other, name):
    """Whether two designs have no swaps, lie side by side on an axis, and draw the same where they meet."""
    if one.rules or other.rules:
        return False
    spans, others = whole_spans(one.scales), whole_spans(other.scales)
    if list(spans) != list(others) or spans[name][2] != others[name][0]:
        return False
    for own in spans:
        if own != name and (spans[own][0], spans[own][2]) != (others[own][0], others[own][2]):
            return False
    meet = spans[name][2]
    common = {**spans, name: (meet, meet, meet)}
    # A plain design is the only one with its functions, ends and homes.
    return shrunk(one, common) == shrunk(other, common)


def _glued_pairs(seam, one, other):
    """The shifts of pairs over both rooms, from two dicts of them, without those that are 0 at all settings."""
    pairs = {}
    for pair in sorted(set([*one, *other])):
        shift = seam.quantity(one.get(pair, Quantity(0)), other.get(pair, Quantity(0)))
        if shift.home or shift.rows:
            pairs[pair] = shift
    return pairs
