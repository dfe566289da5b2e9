"""The raw places and cells of letters and pairs, and what these have for values there."""

from betweenfaces.asking import check_axes, check_thing
from betweenfaces.raws import combined, raw_places, span_ends, span_insides, spans_of
from betweenfaces.settings import Setting
from betweenfaces.sheets import Sheet


def places_of(design, thing):
    """A dict that gives each axis the ascending list of tuples (raw place, whether it is a mark)."""
    check_thing(design.stock, thing)
    return raw_places(design.stock, thing)


def cells_of(design, thing):
    """Yields the raw cells of a thing, in order."""
    check_thing(design.stock, thing)
    places = raw_places(design.stock, thing)
    for cell in combined({name: spans_of(places[name]) for name in places}):
        yield cell


def corners(cell):
    """The list of the corners of a cell, in order."""
    return [Setting.of(places) for places in combined({name: span_ends(cell[name]) for name in cell})]


def inner_settings(cell):
    """The list of the settings within a cell that tell everything about it."""
    return [Setting.of(places) for places in combined({name: span_insides(cell[name]) for name in cell})]


def drawn_in(design, thing, cell):
    """The letter, or letters, that a thing is drawn as in one of its raw cells."""
    check_thing(design.stock, thing)
    inside = {name: span_insides(cell[name])[0] for name in cell}
    return design.stock.drawn_as(design.stock.inner(inside), thing)


def value_in(design, thing, cell, corner):
    """The value of a thing at a corner of one of its raw cells, or at a setting in it, continued from the cell."""
    drawn = drawn_in(design, thing, cell)
    sheet = Sheet(design.stock, design.stock.inner(corner))
    return sheet.value(drawn)


def value_at(design, thing, setting):
    """The value of a thing at a setting."""
    check_thing(design.stock, thing)
    check_axes(design.stock, setting)
    inner = design.stock.inner(setting)
    sheet = Sheet(design.stock, inner)
    return sheet.value(design.stock.drawn_as(inner, thing))
