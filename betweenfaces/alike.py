"""Whether two designs draw all texts alike."""

from betweenfaces.asking import check_one_room
from betweenfaces.forms import forms_on
from betweenfaces.grids import corners_of, inside_of, merged_places
from betweenfaces.raws import raw_places
from betweenfaces.sheets import Shelf
from betweenfaces.tables import ThingTable


def alike(one, other):
    """How two designs of one room are drawn: a tuple that begins with "letters", "alike" or "unlike"."""
    check_one_room(one.stock, other.stock)
    lone = [name for name in sorted([*one, *other]) if name not in one or name not in other]
    if lone:
        return "letters", lone[0]
    shelves = Shelf(one.stock), Shelf(other.stock)
    for thing in _things(one.stock, other.stock):
        setting = _setting_apart(shelves, thing)
        if setting is not None:
            return "unlike", setting, thing
    return "alike", forms_on(shelves[0])


def _things(one, other):
    """The letters of two designs, and then the pairs that may have a shift in one of them."""
    pairs = [before + behind for before in one.glyphs for behind in one.glyphs]
    return list(one.glyphs) + [pair for pair in pairs if one.has_shift(pair) or other.has_shift(pair)]


def _setting_apart(shelves, thing):
    """A setting at which two designs draw a thing otherwise; None if there is none.

    The letters are looked at ahead of the pairs: where these are looked at, all letters are drawn alike.
    """
    one, other = shelves
    places = merged_places(raw_places(one.stock, thing), raw_places(other.stock, thing))
    table, their = ThingTable(one, thing, places), ThingTable(other, thing, places)
    for cell in table.all_cells():
        if any([table.told(cell, corner) != their.told(cell, corner) for corner in corners_of(cell)]):
            for setting in inside_of(table.order, table.stops, cell):
                if table.value_inside(cell, setting) != their.value_inside(cell, setting):
                    return setting
    return None
