"""Texts and letters, drawn at settings."""

from betweenfaces.asking import check_axes, check_name, check_text
from betweenfaces.lists import entries_of
from betweenfaces.pens import width_at
from betweenfaces.settings import Setting
from betweenfaces.sheets import Sheet


def picture(design, setting, text):
    """The rounds of a text and the place of the pen at its end."""
    check_axes(design.stock, setting)
    check_text(design.stock, text)
    return _drawn(design.stock, setting, text)


def pictures(design, text, *settings):
    """Yields the pictures of a text at several settings."""
    told = entries_of(settings)
    for setting in told:
        check_axes(design.stock, setting)
    check_text(design.stock, text)
    for setting in told:
        yield _drawn(design.stock, setting, text)


def outline(design, setting, name):
    """The outline of a letter, without swaps."""
    check_axes(design.stock, setting)
    check_name(design.stock, name)
    sheet = Sheet(design.stock, design.stock.inner(setting))
    return sheet.outline(name)


def drawn_as(design, setting, name):
    """The letter that a letter is drawn as."""
    check_axes(design.stock, setting)
    check_name(design.stock, name)
    return design.stock.drawn_as(design.stock.inner(setting), name)


def width(design, setting, text):
    """The place of the pen at the end of a text."""
    check_axes(design.stock, setting)
    check_text(design.stock, text)
    return width_at(design.stock, text, setting)


def inner(design, setting):
    """The Setting of the inner places."""
    check_axes(design.stock, setting)
    return Setting.of(design.stock.inner(setting))


def _drawn(stock, setting, text):
    """The picture of a text of the letters of a design at one of its settings."""
    inner_places = stock.inner(setting)
    sheet = Sheet(stock, inner_places)
    return sheet.picture(stock.drawn_as(inner_places, text))
