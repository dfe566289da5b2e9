"""Axes, and the bends that lead from told places to inner places."""

from betweenfaces.errors import InvalidAxis, InvalidSetting, InvalidText
from betweenfaces.points import is_point, on_line, point_of
from betweenfaces.ratios import Ratio, is_number, is_stretch, is_within
from betweenfaces.words import numbers_in, words_of


class Axis:
    """A name, the least place, the home and the most, and perhaps a bend."""

    MOST_LETTERS = 8

    def __init__(self, name, *, least, home, most, bend=()):
        if not is_axis_name(name):
            raise InvalidAxis("name")
        if not is_stretch(least, home, most):
            raise InvalidAxis("order")
        self.name = name
        self.least = Ratio.of(least)
        self.home = Ratio.of(home)
        self.most = Ratio.of(most)
        self._knots = _knots_of(bend, self.least, self.home, self.most)

    @classmethod
    def read(cls, text):
        """The axis that a line tells."""
        name, places, knots = axis_told(words_of(text), 0)
        return Axis(name, least=places[0], home=places[1], most=places[2], bend=knots)

    @property
    def bend(self):
        """The tuple of the knots."""
        return self._knots

    @bend.setter
    def bend(self, value):
        self._knots = _knots_of(value, self.least, self.home, self.most)

    def change(self, bend):
        """Gives the axis another bend, or with an empty one none."""
        self._knots = _knots_of(bend, self.least, self.home, self.most)

    def holds(self, place):
        """Whether any value is a number from the least place to the most."""
        return is_number(place) and is_within(self.least, Ratio.of(place), self.most)

    def inner(self, place):
        """The inner place of a told place."""
        if not self.holds(place):
            raise InvalidSetting(self.name)
        told = Ratio.of(place)
        for before, behind in zip(self._knots, self._knots[1:]):
            if not behind[0].under(told):
                return on_line(before, behind, told)
        return told

    def back(self, low, high):
        """The least told place with the inner place low, and the greatest with the inner place high."""
        if not self._knots:
            return Ratio.of(low), Ratio.of(high)
        turned = [(to, at) for at, to in self._knots]
        return _least_told(turned, Ratio.of(low)), _greatest_told(turned, Ratio.of(high))

    def __eq__(self, other):
        if not isinstance(other, Axis) or self.name != other.name or self._knots != other._knots:
            return False
        return self.least == other.least and self.home == other.home and self.most == other.most

    def __str__(self):
        return f"axis {self.name} {self.least} {self.home} {self.most}{_bend_text(self._knots)}"

    def __repr__(self):
        return f"Axis({self.name}, {self.least}, {self.home}, {self.most})"


def is_axis_name(value):
    """Whether any value can be the name of an axis."""
    if not isinstance(value, str) or value == "self":
        return False
    return 1 <= len(value) <= Axis.MOST_LETTERS and all(["a" <= sign <= "z" for sign in value])


def are_by_axis_names(value):
    """Whether any value is a dict whose keys can be names of axes."""
    return isinstance(value, dict) and all([is_axis_name(key) for key in value])


def axis_told(words, line):
    """The name, the three places and the knots that the words of a line tell of an axis."""
    if words[0] != "axis":
        raise InvalidText(line, 0)
    if len(words) < 2 or not is_axis_name(words[1]):
        raise InvalidText(line, 1)
    places = [_numbers_at(words, index, line, 1)[0] for index in range(2, 5)]
    if len(words) == 5:
        return words[1], places, []
    if words[5] != "bend":
        raise InvalidText(line, 5)
    # A bend without knots lacks the word behind it.
    knots = [tuple(_numbers_at(words, index, line, 2)) for index in range(6, max(7, len(words)))]
    return words[1], places, knots


def _numbers_at(words, index, line, many):
    """The numbers of the word at an index, with colons between them, if they are so many."""
    numbers = numbers_in(words[index], ":") if index < len(words) else []
    if len(numbers) != many:
        raise InvalidText(line, index)
    return numbers


def _bend_text(knots):
    """What stands in the line of an axis behind its most."""
    if not knots:
        return ""
    return " ".join([" bend", *[f"{at}:{to}" for at, to in knots]])


def _knots_of(bend, least, home, most):
    """The tuple of the knots of any value that is a bend with these ends and this home."""
    if not isinstance(bend, (tuple, list)) or not all([is_point(knot) for knot in bend]):
        raise InvalidAxis("bend")
    knots = tuple([point_of(knot) for knot in bend])
    if knots and not _is_bend(knots, least, home, most):
        raise InvalidAxis("bend")
    return knots


def _is_bend(knots, least, home, most):
    """Whether knots ascend, begin and end at the ends of an axis and leave its home where it is."""
    for before, behind in zip(knots, knots[1:]):
        if not before[0].under(behind[0]) or behind[1].under(before[1]):
            return False
    return knots[0] == (least, least) and knots[-1] == (most, most) and (home, home) in knots


def _least_told(turned, inner):
    """The least told place of an inner place, from the pairs (to, at) of a bend."""
    for before, behind in reversed(list(zip(turned, turned[1:]))):
        if before[0].under(inner):
            return on_line(before, behind, inner)
    return turned[0][1]


def _greatest_told(turned, inner):
    """The greatest told place of an inner place, from the pairs (to, at) of a bend."""
    for before, behind in zip(turned, turned[1:]):
        if inner.under(behind[0]):
            return on_line(before, behind, inner)
    return turned[-1][1]
