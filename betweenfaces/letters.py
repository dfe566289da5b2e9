"""Letters: a width, rounds of points, parts that place other letters, and rows."""

from betweenfaces.blends import blend, flat, in_pairs, whole_lists
from betweenfaces.errors import InvalidLetter
from betweenfaces.points import is_point, point_of
from betweenfaces.quantities import Quantity
from betweenfaces.ratios import Ratio
from betweenfaces.rows import FullRow, SparseRow


class Letter:
    """A letter at home, and how it changes."""

    def __init__(self, width, *rounds, parts=(), rows=()):
        if not isinstance(width, Quantity):
            raise InvalidLetter("width")
        if not are_rounds(rounds):
            raise InvalidLetter("rounds")
        if not _is_list(parts) or not all([_is_part(part) for part in parts]):
            raise InvalidLetter("parts")
        self.width = width
        self.rounds = tuple([tuple([point_of(point) for point in points]) for points in rounds])
        self.parts = tuple([(name, Ratio.of(x), Ratio.of(y)) for name, x, y in parts])
        own = [point for points in self.rounds for point in points]
        self.spots = tuple([*own, *[(x, y) for _, x, y in self.parts]])
        if not _is_list(rows) or not all([_is_row(row, len(self.spots)) for row in rows]):
            raise InvalidLetter("rows")
        self._rows = tuple(rows)
        # What is inferred stays the same, and letters are drawn often.
        self._numbers, self._bottom = whole_lists([flat(self.spots), *[flat(row.filled(self)) for row in rows]])

    @classmethod
    def of(cls, width, rounds, parts=(), rows=()):
        """The Letter of a list or tuple of rounds."""
        if not isinstance(width, Quantity):
            raise InvalidLetter("width")
        if not _is_list(rounds):
            raise InvalidLetter("rounds")
        return Letter(width, *rounds, parts=parts, rows=rows)

    @property
    def rows(self):
        """The tuple of the rows."""
        return self._rows

    def moved(self, setting):
        """The list of the places of all spots at a Setting of inner places."""
        scalars = [Ratio(1)]
        for row in self._rows:
            reach = row.reach
            scalars.append(reach(setting))
        tops, scale = blend(scalars, self._numbers)
        return in_pairs(tops, scale * self._bottom)

    def __len__(self):
        return len(self.spots)

    def __eq__(self, other):
        if not isinstance(other, Letter) or self.width != other.width or self.rounds != other.rounds:
            return False
        return self.parts == other.parts and self._rows == other._rows


def is_letter_name(value):
    """Whether any value is one sign from a to z."""
    return isinstance(value, str) and len(value) == 1 and "a" <= value <= "z"


def are_rounds(value):
    """Whether any value is a list or tuple of rounds."""
    return _is_list(value) and all([_is_round(points) for points in value])


def _is_list(value):
    """Whether any value is a list or a tuple."""
    return isinstance(value, (list, tuple))


def _is_round(value):
    """Whether any value is a list or tuple of one point or more."""
    return _is_list(value) and len(value) > 0 and all([is_point(point) for point in value])


def _is_part(value):
    """Whether any value is the name of a letter with an offset."""
    return isinstance(value, tuple) and len(value) == 3 and is_letter_name(value[0]) and is_point(value[1:])


def _is_row(value, many):
    """Whether any value is a row that can belong to a letter with so many spots."""
    return isinstance(value, (FullRow, SparseRow)) and value.fits(many)
