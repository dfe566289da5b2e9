"""Sums of rows, told by what each set of peaks adds.

Peaks are a tuple of pairs (name, index of a stop), one for each axis of the set, by names. What peaks add is the value
with these axes at the peaks and the others at home, less all that sets of fewer of these peaks add.
"""

from math import lcm

from betweenfaces.blends import blend, whole_lists
from betweenfaces.ratios import Ratio, whole


def summed(tracks, home, rows):
    """A dict from peaks to what they add, lists of integers, and the bottom of all of these.

    The rows are pairs of a dict that gives some axes, by names, the scalars at their stops, and a list of as many
    numbers as home has. No peaks add what stands at home.
    """
    lists, bottom = whole_lists([home, *[numbers for _, numbers in rows]])
    weights = {(): [Ratio(1)]}
    added = {(): [lists[0]]}
    for (scalars, _), numbers in zip(rows, lists[1:]):
        for peaks, scalar in _spread(tracks, scalars).items():
            weights.setdefault(peaks, []).append(scalar)
            added.setdefault(peaks, []).append(numbers)
    sums = {peaks: blend(weights[peaks], added[peaks]) for peaks in weights}
    scale = 1
    for _, own in sums.values():
        scale = lcm(scale, own)
    return {peaks: [top * (scale // own) for top in tops] for peaks, (tops, own) in sums.items()}, scale * bottom


def least_stops(track, name, sums):
    """The ascending list of the indexes of the stops of an axis at the ends, at home, and where a sum turns."""
    lines = _lines(name, sums)
    stops, _ = whole(track.stops)
    last = len(stops) - 1
    return [index for index in range(len(stops))
            if index in (0, track.home, last) or any([_turns(stops, line, index) for line in lines])]


def _spread(tracks, scalars):
    """A dict from peaks to the scalars that they add."""
    spread = {(): Ratio(1)}
    for name, own in scalars.items():
        spread = _widened(spread, name, own, tracks[name].home)
    return spread


def _widened(spread, name, scalars, home):
    """What peaks add, with the scalars at the stops of one more axis, of which one is its home."""
    at_home = scalars[home]
    rises = [(index, scalar - at_home) for index, scalar in enumerate(scalars) if scalar != at_home]
    wider = {}
    for peaks, scalar in spread.items():
        if at_home:
            wider[peaks] = scalar * at_home
        for index, rise in rises:
            reached = (*peaks, (name, index))
            wider[reached] = scalar * rise
    return wider


def _lines(name, sums):
    """What is added along an axis, a dict from the indexes of stops, for each set of peaks on the other axes."""
    lines = {}
    for peaks, tops in sums.items():
        for axis, index in peaks:
            if axis == name:
                others = tuple([peak for peak in peaks if peak[0] != name])
                lines.setdefault(others, {})[index] = tops
    return list(lines.values())


def _turns(stops, line, index):
    """Whether what is added along an axis has another slope below a stop than above it."""
    told = [line[at] for at in (index - 1, index, index + 1) if at in line]
    if not told:
        return False
    nothing = [0 for _ in told[0]]
    before, here, behind = [line.get(at, nothing) for at in (index - 1, index, index + 1)]
    below, above = stops[index] - stops[index - 1], stops[index + 1] - stops[index]
    return any([(b - a) * above != (c - b) * below for a, b, c in zip(before, here, behind)])
