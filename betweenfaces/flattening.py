"""Letters without parts: their outlines as rounds of their own."""

from betweenfaces.letters import Letter
from betweenfaces.ratios import Ratio
from betweenfaces.rows import FullRow
from betweenfaces.sheets import moved_rounds


class Flattener:
    """The letters of a design with the rounds of their parts behind their own."""

    def __init__(self, glyphs):
        self._glyphs = glyphs
        # A letter may be a part of many.
        self._letters = {}

    def letter(self, name):
        """A letter without parts that is drawn as the letter of this name, without swaps."""
        if name not in self._letters:
            self._letters[name] = self._made(self._glyphs[name])
        return self._letters[name]

    def _made(self, letter):
        """A letter with the rounds of its parts' letters, and with its own rows and theirs."""
        parts = [self.letter(name) for name, _, _ in letter.parts]
        rounds = list(letter.rounds)
        for part, (_, x, y) in zip(parts, letter.parts):
            rounds.extend(moved_rounds(part.rounds, x, y))
        many = sum([len(points) for points in rounds])
        rows = [FullRow(row.reach, _moves(row.filled(letter), parts)) for row in letter.rows]
        first = sum([len(points) for points in letter.rounds])
        for part in parts:
            rows.extend([FullRow(row.reach, _placed(row.moves, first, many)) for row in part.rows])
            first = first + len(part)
        return Letter.of(letter.width, rounds, (), rows)


def _moves(filled, parts):
    """The moves of the own points, and then of the points of each part, which move as its offset does."""
    own = len(filled) - len(parts)
    moves = filled[:own]
    for part, move in zip(parts, filled[own:]):
        moves.extend([move for _ in part.spots])
    return moves


def _placed(moves, first, many):
    """Moves of spots from a number on, of so many that otherwise do not move."""
    still = (Ratio(0), Ratio(0))
    return [still for _ in range(first)] + list(moves) + [still for _ in range(many - first - len(moves))]
