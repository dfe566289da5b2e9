"""Designs: letters that change along axes."""

from betweenfaces.axes import Axis
from betweenfaces.changes import changed
from betweenfaces.cutting import cut
from betweenfaces.drawing import picture
from betweenfaces.errors import InvalidDesign, UnknownAxis, UnknownLetter
from betweenfaces.joining import joined
from betweenfaces.leaving import without
from betweenfaces.ratios import Ratio
from betweenfaces.raws import all_places, spans_of
from betweenfaces.rooms import Room
from betweenfaces.settings import Setting
from betweenfaces.stock import Stock
from betweenfaces.wellformed import are_axes, are_letters, are_pairs, are_parts_right, are_reaches, are_swaps


class Design:
    """Axes, letters, shifts of pairs, and swaps."""

    def __init__(self, axes, letters, *, pairs=None, swaps=()):
        if not are_axes(axes):
            raise InvalidDesign("axes")
        if not are_letters(letters):
            raise InvalidDesign("letters")
        if not are_parts_right(letters):
            raise InvalidDesign("parts")
        if pairs is not None and not are_pairs(pairs, letters):
            raise InvalidDesign("pairs")
        if not are_swaps(swaps, axes, letters):
            raise InvalidDesign("swaps")
        scales = [_copied(axis) for axis in sorted(axes, key=lambda axis: axis.name)]
        shifts = {} if pairs is None else {pair: pairs[pair] for pair in sorted(pairs)}
        glyphs = {name: letters[name] for name in sorted(letters)}
        self.stock = Stock(scales, glyphs, shifts, _copied_swaps(swaps))
        if not are_reaches(self.stock.all_reaches(), scales):
            raise InvalidDesign("reach")

    @property
    def axes(self):
        """The list of the axes, new ones, by their names."""
        return [_copied(axis) for axis in self.stock.scales]

    @property
    def names(self):
        """The ascending list of the letters."""
        return list(self.stock.glyphs)

    @property
    def pairs(self):
        """A dict of the shifts of pairs."""
        return dict(self.stock.shifts)

    @property
    def swaps(self):
        """The list of the swaps, tuples (box, table), in order."""
        return _copied_swaps(self.stock.rules)

    @property
    def room(self):
        """The Room of the whole axes."""
        spans = {axis.name: (axis.least, axis.home, axis.most) for axis in self.stock.scales}
        return Room(**spans)

    @property
    def homes(self):
        """The Setting of the homes."""
        places = {axis.name: axis.home for axis in self.stock.scales}
        return Setting(**places)

    @property
    def cells(self):
        """The number of the cells that the raw places and marks of all things make."""
        many = 1
        for places in all_places(self.stock).values():
            many = many * len(spans_of(places))
        return many

    def axis(self, name):
        """The axis of a name, a new one."""
        for axis in self.stock.scales:
            if axis.name == name:
                return _copied(axis)
        raise UnknownAxis(name)

    def remade(self, axes, letters, pairs, swaps):
        """A design of other axes, letters, pairs and swaps, for the modules that change designs."""
        return Design(axes, letters, pairs=pairs, swaps=swaps)

    def cut(self, room):
        """The plain design of a smaller room."""
        return cut(self, room)

    def joined(self, other):
        """The plain design with the letters of both."""
        return joined(self, other)

    def without(self, *names):
        """The plain design without these letters."""
        return without(self, *names)

    def changed(self, *changes):
        """The design that results if changes are made in order."""
        return changed(self, *changes)

    def __call__(self, setting, text):
        return picture(self, setting, text)

    def __contains__(self, letter):
        return isinstance(letter, str) and letter in self.stock.glyphs

    def __getitem__(self, letter):
        if letter not in self:
            raise UnknownLetter(letter)
        return self.stock.glyphs[letter]

    def __iter__(self):
        return iter(self.stock.glyphs)

    def __len__(self):
        return len(self.stock.glyphs)

    def __eq__(self, other):
        if not isinstance(other, Design) or self.stock.scales != other.stock.scales:
            return False
        if self.stock.glyphs != other.stock.glyphs or self.stock.shifts != other.stock.shifts:
            return False
        return self.stock.rules == other.stock.rules


def _copied(axis):
    """A new axis with the same places and knots."""
    return Axis(axis.name, least=axis.least, home=axis.home, most=axis.most, bend=axis.bend)


def _copied_swaps(swaps):
    """The list of some swaps, with new boxes and tables."""
    return [(_copied_box(box), {name: table[name] for name in sorted(table)}) for box, table in swaps]


def _copied_box(box):
    """A new box with the same stretches."""
    return {name: (Ratio.of(box[name][0]), Ratio.of(box[name][1])) for name in sorted(box)}
