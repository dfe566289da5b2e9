"""Designs whose rows touch the fewest points, or all."""

from betweenfaces.fewest import sparse_row
from betweenfaces.letters import Letter
from betweenfaces.rows import FullRow
from betweenfaces.shrinking import shrunk
from betweenfaces.tracks import whole_spans


def sparse(design):
    """The plain design with each row of each letter written with the fewest touched points."""
    axes, letters, pairs, swaps = shrunk(design.stock, whole_spans(design.stock.scales))
    return design.remade(axes, {name: _with_sparse_rows(letters[name]) for name in letters}, pairs, swaps)


def full(design):
    """The design with each sparse row written as a full row."""
    stock = design.stock
    letters = {name: _with_full_rows(letter) for name, letter in stock.glyphs.items()}
    return design.remade(stock.scales, letters, stock.shifts, stock.rules)


def _with_sparse_rows(letter):
    """A letter with its rows written with the fewest touched points."""
    return _with_rows(letter, [sparse_row(letter, row) for row in letter.rows])


def _with_full_rows(letter):
    """A letter with its rows written as full rows."""
    return _with_rows(letter, [FullRow(row.reach, row.filled(letter)) for row in letter.rows])


def _with_rows(letter, rows):
    """A letter with other rows."""
    return Letter.of(letter.width, letter.rounds, letter.parts, rows)
