"""Checks, of any values, that two designs are alike, and that they are not."""

from betweenfaces.asking import check_one_room, ends_of, is_setting
from betweenfaces.formcheck import is_form_on
from betweenfaces.forms import is_shifted
from betweenfaces.grids import corners_of
from betweenfaces.sheets import Shelf
from betweenfaces.tables import raw_table


def check_unlike(one, other, setting, text):
    """Whether any values are a setting and a text of letters of both designs that they draw otherwise there."""
    check_one_room(one.stock, other.stock)
    if not is_setting(ends_of(one.stock.scales), setting) or not isinstance(text, str):
        return False
    if not all([name in one and name in other for name in text]):
        return False
    return one(setting, text) != other(setting, text)


def check_alike(one, other, papers):
    """Whether any value is the list of the forms of two designs that are alike."""
    check_one_room(one.stock, other.stock)
    names = list(one)
    if names != list(other) or not _are_papers(names, papers):
        return False
    told = [thing for thing, _ in papers]
    others = [pair for pair in _pairs_of(names) if pair not in told]
    for shelf in (Shelf(one.stock), Shelf(other.stock)):
        if not all([is_form_on(shelf, thing, paper) for thing, paper in papers]):
            return False
        if not all([_is_without_shift(shelf, pair) for pair in others]):
            return False
    return all([is_shifted(paper) for thing, paper in papers if len(thing) == 2])


def _pairs_of(names):
    """The ascending list of the pairs of some ascending letters."""
    return [before + behind for before in names for behind in names]


def _are_papers(names, value):
    """Whether any value is a list of tuples (thing, any value) for all letters and then some pairs, ascending."""
    if not isinstance(value, list) or not all([isinstance(paper, tuple) and len(paper) == 2 for paper in value]):
        return False
    things = [thing for thing, _ in value]
    if not all([isinstance(thing, str) for thing in things]) or things[:len(names)] != names:
        return False
    return things[len(names):] == [pair for pair in _pairs_of(names) if pair in things[len(names):]]


def _is_without_shift(shelf, pair):
    """Whether a pair has the shift 0 within all of its raw cells.

    It has it at the settings of `inner_settings` exactly if it has it, continued, at the corners.
    """
    stock = shelf.stock
    if not stock.has_shift(pair):
        return True
    raw = raw_table(shelf, pair)
    return not any([raw.continued(cell, corner) for cell in raw.all_cells() for corner in corners_of(cell)])
