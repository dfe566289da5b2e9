"""Least places, and the hats that have their peaks there."""

from betweenfaces.asking import check_name
from betweenfaces.blends import flat
from betweenfaces.ratios import Ratio, ascending
from betweenfaces.sums import least_stops, summed
from betweenfaces.tents import Tent
from betweenfaces.tracks import Ground, letter_rows, whole_spans


def hats(places, home):
    """The list of tuples (place, tent) with the hat of each of some ascending places but the home."""
    told = ascending(places)
    before = [told[0], *told[:-1]]
    behind = [*told[1:], told[-1]]
    peaks = [(start, peak, end) for start, peak, end in zip(before, told, behind) if peak != Ratio.of(home)]
    return [(peak, Tent(start, peak, end)) for start, peak, end in peaks]


def own_places(design, name):
    """A dict from the names of the axes to the least places, told ones, of the own functions of a letter."""
    check_name(design.stock, name)
    letter = design.stock.glyphs[name]
    scales = design.stock.scales
    tracks = Ground(scales, whole_spans(scales)).tracks([row.reach for row in letter.rows])
    sums, _ = summed(tracks, flat(letter.spots), letter_rows(tracks, letter))
    least = {axis.name: ascending([axis.least, axis.home, axis.most]) for axis in scales}
    for axis, track in tracks.items():
        least[axis] = [track.stops[index] for index in least_stops(track, axis, sums)]
    return least
