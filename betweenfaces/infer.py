"""The moves of the points that a row does not touch."""

from betweenfaces.ratios import Ratio, whole


def infer(points, moves):
    """The list of the moves of all points of a round, from those of the touched points."""
    xs, ys = [_inferred_numbers([point[side] for point in points],
                                {index: move[side] for index, move in moves.items()}) for side in (0, 1)]
    return list(zip(xs, ys))


def inferred(before, behind, home):
    """The move of a number at home between two touched ones, pairs (home, move): a top and a bottom.

    All numbers are integers here: whatever homes and moves are multiplied by, the same is inferred.
    """
    if before[0] == behind[0]:
        return (before[1], 1) if before[1] == behind[1] else (0, 1)
    if behind[0] < before[0]:
        before, behind = behind, before
    if home <= before[0]:
        return before[1], 1
    if home >= behind[0]:
        return behind[1], 1
    width = behind[0] - before[0]
    return before[1] * width + (behind[1] - before[1]) * (home - before[0]), width


def _inferred_numbers(homes, moves):
    """The list of the moves of the numbers of a round, its x or its y."""
    places, _ = whole(homes)
    touched = sorted(moves)
    tops, bottom = whole([moves[index] for index in touched])
    ends = list(zip(touched, tops))
    filled = [Ratio(0) for _ in homes]
    for (before, top), (behind, other) in zip(ends, ends[1:] + ends[:1]):
        filled[before] = Ratio(top, bottom)
        for index in _between(before, behind, len(homes)):
            part, width = inferred((places[before], top), (places[behind], other), places[index])
            filled[index] = Ratio(part, width * bottom)
    return filled


def _between(before, behind, many):
    """The indexes strictly between two of so many around a round; all others if the two are one."""
    places = (behind - before - 1) % many
    return [(before + step) % many for step in range(1, places + 1)]
