"""Designs whose letters have no parts."""

from betweenfaces.asking import check_name
from betweenfaces.flattening import Flattener
from betweenfaces.lists import entries_of
from betweenfaces.shrinking import shrunk
from betweenfaces.stock import Stock
from betweenfaces.tracks import whole_spans


def flattened(design, *names):
    """The plain design in which these letters, or all, have the rounds of their parts as their own."""
    told = entries_of(names)
    for name in told:
        check_name(design.stock, name)
    stock = design.stock
    flattener = Flattener(stock.glyphs)
    glyphs = {}
    for name, letter in stock.glyphs.items():
        glyphs[name] = flattener.letter(name) if not told or name in told else letter
    flat_stock = Stock(stock.scales, glyphs, stock.shifts, stock.rules)
    axes, letters, pairs, swaps = shrunk(flat_stock, whole_spans(stock.scales))
    return design.remade(axes, letters, pairs, swaps)
