"""Checks, of any value, that it is the form of a thing, and that it tells why the form has a place."""

from betweenfaces.asking import check_thing, ends_of, is_setting
from betweenfaces.grids import corners_of, spans_between
from betweenfaces.lists import choices_of, number_of
from betweenfaces.ratios import Ratio, ascending
from betweenfaces.reading import ToldTable
from betweenfaces.sheets import Shelf
from betweenfaces.tables import raw_table, shape_of
from betweenfaces.there import turn_there
from betweenfaces.turns import bends, jumps


def check_form(design, thing, told):
    """Whether any value is the form of a thing."""
    check_thing(design.stock, thing)
    return is_form_on(Shelf(design.stock), thing, told)


def is_form_on(shelf, thing, told):
    """Whether any value is the form of a thing of a design whose sheets are kept."""
    raw = raw_table(shelf, thing)
    if not _is_form(raw, told):
        return False
    axes, table = told
    read = ToldTable(axes, table)
    return _are_needed(read) and _are_values(raw, read)


def check_reason(design, thing, told):
    """Whether any value is a tuple that shows why the form of a thing has a place."""
    check_thing(design.stock, thing)
    if not _is_reason(design.stock.scales, told):
        return False
    name, place, word, setting = told
    shelf = Shelf(design.stock)
    if turn_there(shelf, thing, (name, place), setting) != word:
        return False
    if word == "jump":
        return True
    raw = raw_table(shelf, thing)
    side = number_of(raw.order, name)
    at = number_of(raw.stops[side], place)
    return not raw.marks[side][at] or not jumps(raw, side, at)


def _is_reason(scales, value):
    """Whether any value is a tuple of an axis, a number, a word and a setting of the other axes."""
    if not isinstance(value, tuple) or len(value) != 4:
        return False
    name, place, word, setting = value
    if not isinstance(place, Ratio) or not isinstance(word, str) or word not in ("jump", "bend"):
        return False
    others = [axis for axis in scales if axis.name != name]
    return len(others) < len(scales) and is_setting(ends_of(others), setting)


def _is_form(raw, value):
    """Whether any value has the shape of a form, with raw places as places and marks as jumps."""
    if not isinstance(value, tuple) or len(value) != 2:
        return False
    axes, table = value
    if not isinstance(axes, list) or len(axes) != len(raw.order) or not isinstance(table, list):
        return False
    if not all([_is_axis(raw, side, axis) for side, axis in enumerate(axes)]):
        return False
    spans = [spans_between([jump for _, jump in places]) for name, places in axes]
    many = 1
    for own in spans:
        many = many * len(own)
    if len(table) != many:
        return False
    return all([_are_corners(raw.is_pair, cell, values) for cell, values in zip(choices_of(spans), table)])


def _is_axis(raw, side, value):
    """Whether any value is the tuple (name, places) of an axis of a form."""
    if not isinstance(value, tuple) or len(value) != 2 or value[0] != raw.order[side]:
        return False
    places, stops = value[1], raw.stops[side]
    if not isinstance(places, list) or not all([_is_place(place) for place in places]):
        return False
    told = [place for place, _ in places]
    if told != ascending(told) or not all([place in stops for place in told]):
        return False
    if not told or told[0] != stops[0] or told[-1] != stops[-1]:
        return False
    return all([raw.marks[side][number_of(stops, place)] for place, jump in places if jump])


def _is_place(value):
    """Whether any value is a tuple (place, whether it is a jump)."""
    return isinstance(value, tuple) and len(value) == 2 and isinstance(value[0], Ratio) and isinstance(value[1], bool)


def _are_corners(is_pair, cell, values):
    """Whether any value is a list of values at the corners of a cell, with as many rounds and points at all."""
    if not isinstance(values, list) or len(values) != len(corners_of(cell)):
        return False
    if not all([_is_shift(value) if is_pair else _is_letter_value(value) for value in values]):
        return False
    shapes = [shape_of(value) for value in values]
    return all([shape == shapes[0] for shape in shapes])


def _is_shift(value):
    """Whether any value is the value of a pair."""
    return isinstance(value, Ratio)


def _is_letter_value(value):
    """Whether any value is the value of a letter."""
    if not isinstance(value, tuple) or len(value) != 2 or not isinstance(value[0], list):
        return False
    if not isinstance(value[1], Ratio) or not all([isinstance(points, list) for points in value[0]]):
        return False
    return all([_is_told_point(point) for points in value[0] for point in points])


def _is_told_point(value):
    """Whether any value is a tuple of two Ratios."""
    return isinstance(value, tuple) and len(value) == 2 and all([isinstance(number, Ratio) for number in value])


def _are_needed(read):
    """Whether the values of a told form jump at its jumps alone, and bend at all other places within."""
    for side, marks in enumerate(read.marks):
        for at, jump in enumerate(marks):
            if jump != jumps(read, side, at):
                return False
            if not jump and 0 < at < len(marks) - 1 and not bends(read, side, at):
                return False
    return True


def _are_values(raw, read):
    """Whether a told form has the values of a thing within all of its raw cells.

    It has them at the settings of `inner_settings` exactly if it has them, continued, at the corners; and these are
    fewer, for cells that meet share them.
    """
    looked_at = {}
    for cell in raw.all_cells():
        told = read.cell_with(raw.middle(cell))
        for corner in corners_of(cell):
            if (raw.drawn(cell), told, corner) not in looked_at:
                looked_at[(raw.drawn(cell), told, corner)] = True
                if not _are_equal(raw.told(cell, corner), read.continued(told, raw.places_at(corner))):
                    return False
    return True


def _are_equal(value, other):
    """Whether two values that are told flatly are equal, though not both need be in lowest terms."""
    shape, tops, bottom = value
    other_shape, others, scale = other
    return shape == other_shape and [top * scale for top in tops] == [top * bottom for top in others]
