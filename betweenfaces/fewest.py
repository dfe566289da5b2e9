"""The fewest points of a round that tell the moves of all, and rows that touch no more."""

from betweenfaces.arcs import are_still, right_arcs
from betweenfaces.points import is_still
from betweenfaces.rows import SparseRow


def touched_least(points, moves):
    """The least tuple of the fewest points that give all moves, and the least numbers of right arcs."""
    if are_still(moves):
        return (), ()
    arcs = right_arcs(points, moves)
    potentials = tuple([_counts(arcs, start) for start in range(len(points))])
    return _least_touched(arcs, potentials), potentials


def sparse_row(letter, row):
    """The sparse row that moves a letter as this row does and touches the fewest spots."""
    moves = row.filled(letter)
    touched = []
    first = 0
    for points in letter.rounds:
        behind = first + len(points)
        indexes, _ = touched_least(points, moves[first:behind])
        touched.extend([first + index for index in indexes])
        first = behind
    touched.extend([spot for spot in range(first, len(moves)) if not is_still(moves[spot])])
    return SparseRow(row.reach, {spot: moves[spot] for spot in touched})


def _counts(arcs, start):
    """For each number of places, 0 to n, the least number of right arcs that lead so far from a point."""
    many = len(arcs)
    counts = [0]
    for behind in range(1, many + 1):
        ways = [counts[at] for at in range(behind) if arcs[(start + at) % many][behind - at]]
        counts.append(1 + min(ways))
    return tuple(counts)


def _least_touched(arcs, potentials):
    """The least of the tuples of points from each of which, as few as they can be, an arc leads to the next one."""
    many = len(arcs)
    fewest = min([counts[many] for counts in potentials])
    # No point ahead of the first one with so few arcs around belongs to such a tuple.
    first = min([start for start in range(many) if potentials[start][many] == fewest])
    indexes = [first]
    for left in range(fewest - 1, 0, -1):
        at = indexes[-1]
        ways = [index for index in range(at + 1, many) if arcs[at][index - at]]
        indexes.append(min([index for index in ways if potentials[index][many - index + first] == left]))
    return tuple(indexes)
