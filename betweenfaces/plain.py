"""Quantities, letters and designs, written plainly: in the one way that tells just what is drawn."""

from betweenfaces.asking import check_name
from betweenfaces.plainrows import letter_on, quantity_on
from betweenfaces.shrinking import shrunk
from betweenfaces.tracks import Ground, whole_spans


def plain_quantity(axes, quantity):
    """The plain quantity with the same value at every setting of the axes without their bends."""
    return quantity_on(Ground(axes, whole_spans(axes)), quantity)


def plain_letter(design, name):
    """The letter of the plain design."""
    check_name(design.stock, name)
    scales = design.stock.scales
    return letter_on(Ground(scales, whole_spans(scales)), design.stock.glyphs[name])


def plain(design):
    """The plain design that is drawn as the design at every setting."""
    axes, letters, pairs, swaps = shrunk(design.stock, whole_spans(design.stock.scales))
    return design.remade(axes, letters, pairs, swaps)
