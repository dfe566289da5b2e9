"""Letters and quantities over two rooms that lie side by side, written plainly over both."""

from betweenfaces.lists import number_of
from betweenfaces.plainrows import plain_letter_of, plain_quantity_of
from betweenfaces.ratios import ascending
from betweenfaces.raws import told_places
from betweenfaces.tracks import Track, letter_rows, quantity_rows, tents_on


class Seam:
    """The axes of two designs, where the stretch of one axis in the first design ends where that of the other begins.

    What both draw alike where the rooms meet is what the first one draws, as if its axis ended there, and what the
    other one adds behind this place.
    """

    def __init__(self, scales, others, name):
        self._scales = list(zip(scales, others))
        self._name = name
        self._meet = [axis.most for axis in scales if axis.name == name][0]

    def quantity(self, one, other):
        """The plain quantity with the values of both."""
        tracks, theirs = self._tracks([reach for reach, _ in one.rows], [reach for reach, _ in other.rows])
        rows = quantity_rows(tracks, one) + self._behind(theirs, quantity_rows(theirs, other))
        return plain_quantity_of(tracks, one.home, rows)

    def letter(self, one, other):
        """The plain letter that is drawn as both."""
        tracks, theirs = self._tracks([row.reach for row in one.rows], [row.reach for row in other.rows])
        rows = letter_rows(tracks, one) + self._behind(theirs, letter_rows(theirs, other))
        return plain_letter_of(tracks, one, rows, self.quantity(one.width, other.width))

    def _tracks(self, reaches, others):
        """The dicts of the tracks of the axes of all reaches in the first design, and in the other one."""
        tracks = {}
        theirs = {}
        for axis, behind in self._scales:
            tents, more = tents_on(axis.name, reaches), tents_on(axis.name, others)
            if tents or more:
                turns = told_places(axis, tents) + told_places(behind, more)
                stops = ascending([axis.least, axis.home, axis.most, behind.most] + turns)
                tracks[axis.name] = Track(axis, stops, axis.home)
                theirs[axis.name] = Track(behind, stops, axis.home)
        return tracks, theirs

    def _behind(self, tracks, rows):
        """What rows add behind the place where the rooms meet, more than they do there."""
        added = []
        for scalars, numbers in rows:
            if self._name in scalars:
                own = scalars[self._name]
                here = own[number_of(tracks[self._name].stops, self._meet)]
                added.append(({**scalars, self._name: [scalar - here for scalar in own]}, numbers))
        return added
