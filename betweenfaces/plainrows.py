"""Quantities and letters, written plainly in a room."""

from betweenfaces.blends import flat, in_pairs
from betweenfaces.hats import hats
from betweenfaces.letters import Letter
from betweenfaces.quantities import Quantity
from betweenfaces.ratios import Ratio
from betweenfaces.rows import FullRow
from betweenfaces.sheets import split_rounds
from betweenfaces.sums import least_stops, summed
from betweenfaces.tents import Reach
from betweenfaces.tracks import letter_rows, quantity_rows


def quantity_on(ground, quantity):
    """The plain quantity that has the values of a quantity on a ground."""
    tracks = ground.tracks([reach for reach, _ in quantity.rows])
    return plain_quantity_of(tracks, quantity.home, quantity_rows(tracks, quantity))


def letter_on(ground, letter):
    """The plain letter that is drawn as a letter on a ground, with the same parts."""
    tracks = ground.tracks([row.reach for row in letter.rows])
    return plain_letter_of(tracks, letter, letter_rows(tracks, letter), quantity_on(ground, letter.width))


def plain_quantity_of(tracks, home, rows):
    """The plain quantity with a number ahead of all rows and what these add."""
    sums, bottom = summed(tracks, [home], rows)
    told = [(reach, Ratio(tops[0], bottom)) for reach, tops in _plain_rows(tracks, sums)]
    return Quantity.of(Ratio(sums[()][0], bottom), told)


def plain_letter_of(tracks, letter, rows, width):
    """The plain letter of a width, with the spots of a letter ahead of all rows and what these add."""
    sums, bottom = summed(tracks, flat(letter.spots), rows)
    spots = in_pairs(sums[()], bottom)
    told = [FullRow(reach, in_pairs(tops, bottom)) for reach, tops in _plain_rows(tracks, sums)]
    offsets = spots[len(spots) - len(letter.parts):]
    parts = [(name, x, y) for (name, _, _), (x, y) in zip(letter.parts, offsets)]
    return Letter.of(width, split_rounds(letter, spots), parts, told)


def _plain_rows(tracks, sums):
    """The list of the reaches of hats and what they add, ascending by their peaks."""
    tents = {name: _tents(track, least_stops(track, name, sums)) for name, track in tracks.items()}
    kept = [peaks for peaks in sums if peaks and any(sums[peaks])]
    kept = [peaks for peaks in kept if all([index in tents[name] for name, index in peaks])]
    homes = {name: track.home for name, track in tracks.items()}
    rows = []
    for _, peaks in sorted([(_places(homes, peaks), peaks) for peaks in kept]):
        rows.append((Reach.of({name: tents[name][index] for name, index in peaks}), sums[peaks]))
    return rows


def _tents(track, stops):
    """A dict from the indexes of least stops, but that of the home, to their hats."""
    told = hats([track.stops[index] for index in stops], track.stops[track.home])
    indexes = [index for index in stops if index != track.home]
    return {index: tent for index, (_, tent) in zip(indexes, told)}


def _places(homes, peaks):
    """The indexes of peaks on all axes, with the home on those that they lack."""
    told = dict(peaks)
    return [told.get(name, home) for name, home in homes.items()]
