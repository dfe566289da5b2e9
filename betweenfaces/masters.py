"""Masters: how letters are drawn at some settings; designs made of them, and they made of designs."""

from betweenfaces.asking import ends_of, is_setting
from betweenfaces.designs import Design
from betweenfaces.errors import InvalidDesign, InvalidMasters
from betweenfaces.gains import Field
from betweenfaces.letters import are_rounds, is_letter_name
from betweenfaces.ratios import ascending, is_number
from betweenfaces.raws import combined
from betweenfaces.settings import Setting
from betweenfaces.sheets import split_rounds
from betweenfaces.tracks import tents_on
from betweenfaces.wellformed import are_axes


def from_masters(axes, masters):
    """The design with these axes that is drawn as each master at its places."""
    if not are_axes(axes):
        raise InvalidDesign("axes")
    if not isinstance(masters, list):
        raise InvalidMasters(0)
    settings = []
    for index, master in enumerate(masters):
        if not _is_master(axes, master) or master[0] in settings or _shape(master) != _shape(masters[0]):
            raise InvalidMasters(index)
        settings.append(master[0])
    if Setting.of({axis.name: axis.home for axis in axes}) not in settings:
        raise InvalidMasters(len(masters))
    field = Field(axes, masters)
    return Design(axes, field.letters())


def masters_of(design):
    """Yields masters of which a design is made that is drawn as this one."""
    stock = design.stock
    if any([letter.parts for letter in stock.glyphs.values()]):
        raise InvalidDesign("parts")
    if stock.shifts:
        raise InvalidDesign("pairs")
    if stock.rules:
        raise InvalidDesign("swaps")
    for places in combined(_master_places(stock)):
        yield Setting.of(places), {name: _drawing(letter, places) for name, letter in stock.glyphs.items()}


def _is_master(axes, value):
    """Whether any value is a tuple of a Setting of some axes and a dict of drawings of letters."""
    if not isinstance(value, tuple) or len(value) != 2 or not is_setting(ends_of(axes), value[0]):
        return False
    letters = value[1]
    if not isinstance(letters, dict) or not letters or not all([is_letter_name(name) for name in letters]):
        return False
    return all([_is_drawing(drawing) for drawing in letters.values()])


def _is_drawing(value):
    """Whether any value is a tuple of a width, a number, and rounds."""
    return isinstance(value, tuple) and len(value) == 2 and is_number(value[0]) and are_rounds(value[1])


def _shape(master):
    """For each letter of a master the list of the numbers of points of its rounds."""
    return {name: [len(points) for points in rounds] for name, (_, rounds) in master[1].items()}


def _master_places(stock):
    """A dict that gives each axis the places, behind the bends, between which all letters are straight."""
    places = {}
    reaches = stock.all_reaches()
    for axis in stock.scales:
        tents = tents_on(axis.name, reaches)
        turns = [place for tent in tents for place in (tent.start, tent.peak, tent.end)]
        places[axis.name] = ascending([axis.least, axis.home, axis.most] + turns)
    return places


def _drawing(letter, places):
    """The width and the rounds of a letter at places behind the bends."""
    return letter.width.at(places), split_rounds(letter, letter.moved(places))
