"""Designs without some of their letters."""

from betweenfaces.asking import check_name
from betweenfaces.errors import InvalidDesign, Needed
from betweenfaces.lists import entries_of
from betweenfaces.shrinking import shrunk
from betweenfaces.stock import Stock
from betweenfaces.tracks import whole_spans


def without(design, *names):
    """The plain design without these letters."""
    stock = design.stock
    gone = _letters_told(stock, names)
    stay = [name for name in stock.glyphs if name not in gone]
    needed = [name for name in _next_letters(stock, stay) if name in gone]
    if needed:
        raise Needed(needed[0])
    if not stay:
        raise InvalidDesign("letters")
    glyphs = {name: stock.glyphs[name] for name in stay}
    shifts = {pair: shift for pair, shift in stock.shifts.items() if pair[0] in glyphs and pair[1] in glyphs}
    tables = [(box, {name: to for name, to in table.items() if name in glyphs}) for box, table in stock.rules]
    rules = [(box, table) for box, table in tables if table]
    axes, letters, pairs, swaps = shrunk(Stock(stock.scales, glyphs, shifts, rules), whole_spans(stock.scales))
    return design.remade(axes, letters, pairs, swaps)


def wanted(design, *names):
    """The ascending list of the letters that must stay if these letters stay."""
    reached = _letters_told(design.stock, names)
    more = True
    while more:
        more = [name for name in _next_letters(design.stock, reached) if name not in reached]
        reached = reached + more
    return sorted(set(reached))


def _letters_told(stock, names):
    """The list of the letters of a design that are told as arguments; lists among these stand for their entries."""
    told = entries_of(names)
    for name in told:
        check_name(stock, name)
    return told


def _next_letters(stock, names):
    """The ascending list of the letters that are parts of some letters, or to which tables lead from them."""
    parts = [part for name in names for part, _, _ in stock.glyphs[name].parts]
    led = [table[name] for name in names for _, table in stock.rules if name in table]
    return sorted(set(parts + led))
