"""What each of some masters adds to lesser ones, and the letters that this makes."""

from betweenfaces.blends import flat, in_pairs, whole_lists
from betweenfaces.hats import hats
from betweenfaces.letters import Letter
from betweenfaces.lists import choices_of, number_of
from betweenfaces.quantities import Quantity
from betweenfaces.ratios import Ratio, ascending
from betweenfaces.rows import FullRow
from betweenfaces.tents import Reach


class Field:
    """Masters by the numbers of their places on the axes; the ends of the axes are places, too."""

    def __init__(self, axes, masters):
        self._axes = sorted(axes, key=lambda axis: axis.name)
        self._places = [_places_on(axis, masters) for axis in self._axes]
        self._home = self._key({axis.name: axis.home for axis in self._axes})
        self._drawn = {self._key(setting): letters for setting, letters in masters}

    def letters(self):
        """A dict of the letters that are drawn as each master at its places."""
        lists, bottom = whole_lists([_numbers(letters) for letters in self._drawn.values()])
        gains = _gains(self._home, dict(zip(list(self._drawn), lists)))
        rows = [(reach, gain) for key, gain in gains.items() if any(gain) for reach in self._reaches(key)]
        at_home = self._drawn[self._home]
        letters = {}
        first = 0
        for name in sorted(at_home):
            behind = first + len(_numbers({name: at_home[name]}))
            letters[name] = _letter(at_home[name], [(reach, gain[first:behind]) for reach, gain in rows], bottom)
            first = behind
        return letters

    def _key(self, places):
        """The tuple of the numbers of some places, one on each axis."""
        return tuple([number_of(own, places[axis.name]) for axis, own in zip(self._axes, self._places)])

    def _reaches(self, key):
        """The reaches whose scalars, added up, are the scalar of a master."""
        names = []
        tents = []
        for side, (axis, own) in enumerate(zip(self._axes, self._places)):
            if key[side] != self._home[side]:
                names.append(axis.name)
                tents.append(self._tents_of(side, key[side], [tent for _, tent in hats(own, axis.home)]))
        return [Reach.of(dict(zip(names, chosen))) for chosen in choices_of(tents)]

    def _tents_of(self, side, at, told):
        """The tents that make the hat of a master place; told are those of all places but the home."""
        home, last = self._home[side], len(self._places[side]) - 1
        told = [*told[:home], None, *told[home:]]
        masters = [key[side] for key in self._drawn]
        # Beyond the last master place a hat keeps its value: the tent of the end of the axis makes up for its fall.
        if home < at < last and at == max(masters):
            return [told[at], told[last]]
        if 0 < at < home and at == min(masters):
            return [told[at], told[0]]
        return [told[at]]


def _places_on(axis, masters):
    """The ascending list of the ends and the home of an axis, and of the places of masters."""
    return ascending([axis.least, axis.home, axis.most] + [setting[axis.name] for setting, _ in masters])


def _numbers(letters):
    """The numbers of all letters of a master: for each one the width and those of its points."""
    numbers = []
    for name in sorted(letters):
        width, rounds = letters[name]
        numbers.append(width)
        numbers.extend(flat([point for points in rounds for point in points]))
    return numbers


def _gains(home, numbers):
    """A dict of the gains of masters, from a dict of their numbers, both by the numbers of their places."""
    gains = {}
    # The lesser masters come first.
    for _, key in sorted([(_away(home, key), key) for key in numbers]):
        if key != home:
            gain = _less(numbers[key], numbers[home])
            for lesser in choices_of([sorted(set([base, at])) for base, at in zip(home, key)]):
                if lesser in gains:
                    gain = _less(gain, gains[lesser])
            gains[key] = gain
    return gains


def _away(home, key):
    """The number of the places that are not the home."""
    return len([at for base, at in zip(home, key) if at != base])


def _less(one, other):
    """The numbers of one list less those of another."""
    return [number - less for number, less in zip(one, other)]


def _letter(drawing, rows, bottom):
    """The letter that is drawn as told at home, with the gains of its numbers, over a bottom, as rows."""
    width, rounds = drawing
    deltas = [(reach, Ratio(gain[0], bottom)) for reach, gain in rows if gain[0]]
    moves = [FullRow(reach, in_pairs(gain[1:], bottom)) for reach, gain in rows if any(gain[1:])]
    return Letter.of(Quantity.of(width, deltas), rounds, (), moves)
