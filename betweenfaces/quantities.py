"""Quantities: numbers that change with the setting."""

from betweenfaces.errors import InvalidRow, UnknownAxis
from betweenfaces.ratios import Ratio, is_number
from betweenfaces.tents import Reach


class Quantity:
    """A home number, and rows that add a delta times the scalar of a reach."""

    def __init__(self, home, *rows):
        if not is_number(home):
            raise InvalidRow("home")
        if not all([_is_row(row) for row in rows]):
            raise InvalidRow("rows")
        self.home = Ratio.of(home)
        self._rows = tuple([(reach, Ratio.of(delta)) for reach, delta in rows])
        self._names = tuple(sorted({name for reach, _ in rows for name in reach}))

    @classmethod
    def of(cls, home, rows=()):
        """The Quantity of a tuple or list of rows."""
        if not is_number(home):
            raise InvalidRow("home")
        if not isinstance(rows, (tuple, list)):
            raise InvalidRow("rows")
        return Quantity(home, *rows)

    @property
    def rows(self):
        """The tuple of the rows."""
        return self._rows

    @property
    def names(self):
        """The ascending tuple of the axes in the reaches."""
        return self._names

    def at(self, places):
        """The value at the inner places of a Setting."""
        for name in self._names:
            if name not in places:
                raise UnknownAxis(name)
        value = self.home
        for reach, delta in self._rows:
            scalar = reach(places)
            if scalar:
                value = value + scalar * delta
        return value

    def __add__(self, other):
        home = self.home + other.home
        rows = self._rows + other._rows
        return Quantity(home, *rows)

    def __eq__(self, other):
        return isinstance(other, Quantity) and self.home == other.home and self._rows == other._rows

    def __repr__(self):
        return f"Quantity({len(self._rows)} rows)"


def _is_row(value):
    """Whether any value is a tuple of a Reach and a number."""
    return isinstance(value, tuple) and len(value) == 2 and isinstance(value[0], Reach) and is_number(value[1])
