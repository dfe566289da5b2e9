"""The errors that are raised for settings, texts, letters and things that a design does not know."""

from betweenfaces.errors import InvalidSetting, NotOneRoom, UnknownAxis, UnknownLetter
from betweenfaces.ratios import is_within
from betweenfaces.settings import Setting


def check_setting(ends, setting):
    """Raises what is wrong with any value as a setting of axes, a dict from names to their least and most."""
    if not isinstance(setting, Setting):
        raise InvalidSetting(None)
    for name in setting:
        if name not in ends:
            raise UnknownAxis(name)
    for name in sorted(ends):
        least, most = ends[name]
        if name not in setting or not is_within(least, setting[name], most):
            raise InvalidSetting(name)


def ends_of(scales):
    """A dict from the names of axes to their least and most."""
    return {axis.name: (axis.least, axis.most) for axis in scales}


def is_setting(ends, value):
    """Whether any value is a Setting of axes, a dict from names to their least and most."""
    if not isinstance(value, Setting) or list(value) != sorted(ends):
        return False
    return all([is_within(least, value[name], most) for name, (least, most) in ends.items()])


def check_axes(stock, setting):
    """Raises what is wrong with any value as a setting of a design."""
    check_setting(ends_of(stock.scales), setting)


def check_one_room(one, other):
    """Raises NotOneRoom unless two designs have axes of the same names with the same ends."""
    if ends_of(one.scales) != ends_of(other.scales):
        raise NotOneRoom()


def check_axis(stock, name):
    """Raises UnknownAxis for any value that is not the name of an axis of a design."""
    if not isinstance(name, str) or name not in ends_of(stock.scales):
        raise UnknownAxis(name)


def check_text(stock, text):
    """Raises UnknownLetter for any value that is no text of a design's letters."""
    if not isinstance(text, str):
        raise UnknownLetter(text)
    for sign in text:
        check_name(stock, sign)


def check_name(stock, name):
    """Raises UnknownLetter for any value that is no letter of a design."""
    if not isinstance(name, str) or name not in stock.glyphs:
        raise UnknownLetter(name)


def check_thing(stock, thing):
    """Raises UnknownLetter for any value that is no thing of a design."""
    if not isinstance(thing, str) or not 1 <= len(thing) <= 2:
        raise UnknownLetter(thing)
    if not all([name in stock.glyphs for name in thing]):
        raise UnknownLetter(thing)
