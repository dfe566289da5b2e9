"""Checks, of any values, that two designs are alike, and that they are not."""

from betweenfaces.asking import check_one_room, ends_of, is_setting
from betweenfaces.cells import cells_of, inner_settings, value_at
from betweenfaces.formcheck import check_form
from betweenfaces.forms import is_shifted


def check_unlike(one, other, setting, text):
    """Whether any values are a setting and a text of letters of both designs that they draw otherwise there."""
    check_one_room(one.stock, other.stock)
    if not is_setting(ends_of(one.stock.scales), setting) or not isinstance(text, str):
        return False
    if not all([name in one and name in other for name in text]):
        return False
    return one(setting, text) != other(setting, text)


def check_alike(one, other, papers):
    """Whether any value is the list of the forms of two designs that are alike."""
    check_one_room(one.stock, other.stock)
    names = list(one)
    if names != list(other) or not _are_papers(names, papers):
        return False
    for thing, paper in papers:
        if not check_form(one, thing, paper) or not check_form(other, thing, paper):
            return False
        if len(thing) == 2 and not is_shifted(paper):
            return False
    told = [thing for thing, _ in papers]
    others = [pair for pair in _pairs_of(names) if pair not in told]
    return all([_is_without_shift(one, pair) and _is_without_shift(other, pair) for pair in others])


def _pairs_of(names):
    """The ascending list of the pairs of some ascending letters."""
    return [before + behind for before in names for behind in names]


def _are_papers(names, value):
    """Whether any value is a list of tuples (thing, any value) for all letters and then some pairs, ascending."""
    if not isinstance(value, list) or not all([isinstance(paper, tuple) and len(paper) == 2 for paper in value]):
        return False
    things = [thing for thing, _ in value]
    if not all([isinstance(thing, str) for thing in things]) or things[:len(names)] != names:
        return False
    return things[len(names):] == [pair for pair in _pairs_of(names) if pair in things[len(names):]]


def _is_without_shift(design, pair):
    """Whether a pair has the shift 0 within all of its raw cells."""
    if not design.stock.has_shift(pair):
        return True
    for cell in cells_of(design, pair):
        if any([value_at(design, pair, setting) for setting in inner_settings(cell)]):
            return False
    return True
