"""Rows of letters: the moves of all spots, or of the touched ones."""

from betweenfaces.errors import InvalidRow
from betweenfaces.infer import infer
from betweenfaces.points import is_point, point_of
from betweenfaces.ratios import Ratio, is_integer
from betweenfaces.tents import Reach


class Row:
    """What both kinds of rows have: a reach."""

    def __init__(self, reach):
        if not isinstance(reach, Reach):
            raise InvalidRow("reach")
        self.reach = reach


class FullRow(Row):
    """A row with a move for each spot."""

    def __init__(self, reach, moves):
        super().__init__(reach)
        if not isinstance(moves, (list, tuple)) or not all([is_point(move) for move in moves]):
            raise InvalidRow("moves")
        self.moves = tuple([point_of(move) for move in moves])

    def fits(self, many):
        """Whether the row can belong to a letter with so many spots."""
        return len(self.moves) == many

    def filled(self, letter):
        """The list of the moves of all spots of a letter."""
        return list(self.moves)

    def touched(self, letter):
        """The list of the spots that are touched: all of them."""
        return list(range(len(letter.spots)))

    def __eq__(self, other):
        return isinstance(other, FullRow) and self.reach == other.reach and self.moves == other.moves


class SparseRow(Row):
    """A row with moves for some spots; those of the others are inferred."""

    def __init__(self, reach, moves):
        super().__init__(reach)
        if not isinstance(moves, dict) or not all([_is_touch(spot, move) for spot, move in moves.items()]):
            raise InvalidRow("moves")
        self.moves = tuple([(spot, point_of(moves[spot])) for spot in sorted(moves)])

    def fits(self, many):
        """Whether the row can belong to a letter with so many spots."""
        return all([spot < many for spot, _ in self.moves])

    def filled(self, letter):
        """The list of the moves of all spots of a letter, those inferred too."""
        told = dict(self.moves)
        moves = []
        for points in letter.rounds:
            first = len(moves)
            touched = {index: told[first + index] for index in range(len(points)) if first + index in told}
            moves.extend(infer(points, touched))
        offsets = [told.get(spot, (Ratio(0), Ratio(0))) for spot in range(len(moves), len(letter.spots))]
        return moves + offsets

    def touched(self, letter):
        """The ascending list of the spots that are touched."""
        return [spot for spot, _ in self.moves]

    def __eq__(self, other):
        return isinstance(other, SparseRow) and self.reach == other.reach and self.moves == other.moves


def _is_touch(spot, move):
    """Whether any two values are the number of a spot and a move."""
    return is_integer(spot) and spot >= 0 and is_point(move)
