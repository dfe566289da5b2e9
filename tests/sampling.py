"""Widths and gaps in Fractions, looked at in so many settings that nothing can hide between them."""

import itertools
from fractions import Fraction

from tests.drawn import drawn_as_at, inner_places, outline_at, picture_at, quantity_at, shift_at
from tests.oracle import fraction
from tests.plainly import TINY, told_with, turning_places


def all_reaches(design):
    reaches = [reach for shift in design.pairs.values() for reach, _ in shift.rows]
    for name in design:
        reaches += [row.reach for row in design[name].rows] + [reach for reach, _ in design[name].width.rows]
    return reaches


def raw_of(design, axis):
    """All told places on an axis at which anything of a design may turn or jump."""
    places = set(turning_places(axis, [reach[axis.name] for reach in all_reaches(design) if axis.name in reach]))
    for box, _ in design.swaps:
        if axis.name in box:
            low, high = box[axis.name]
            places |= {told_with(axis, fraction(low))[0], told_with(axis, fraction(high))[1]}
    return sorted(places)


def sampled(design, axis):
    """These places, those close around them, and those in the middle between them, ascending."""
    raw = raw_of(design, axis)
    told = set(raw)
    for low, high in zip(raw, raw[1:]):
        told |= {low + TINY, (low + high) / 2, high - TINY}
    return sorted(told)


def settings_of(design, places=sampled):
    """All settings, dicts of Fractions, with such places on each axis."""
    names = [axis.name for axis in design.axes]
    return [dict(zip(names, chosen)) for chosen in itertools.product(*[places(design, axis) for axis in design.axes])]


def width_by_hand(design, told, text):
    return picture_at(design, inner_places(design, told), text)[1]


def width_drawn_by_hand(design, told, drawn):
    """The width of a text that is drawn as these letters."""
    inner = inner_places(design, told)
    total = sum((quantity_at(design[name].width, inner) for name in drawn), Fraction(0))
    return total + sum((shift_at(design, inner, one + other) for one, other in zip(drawn, drawn[1:])), Fraction(0))


def bound_by_hand(design, text, sign):
    """The greatest width (for the sign -1 the least one) and whether it is met, by looking at all cells' corners."""
    axes = {axis.name: axis for axis in design.axes}
    values = []
    for told in settings_of(design):
        inner = inner_places(design, told)
        drawn = "".join(drawn_as_at(design, inner, name) for name in text)
        # The corner from which a place close to it is continued is the raw place next to it.
        near = {name: next((raw for raw in raw_of(design, axes[name]) if abs(raw - place) <= TINY), place)
                for name, place in told.items()}
        values.append(width_drawn_by_hand(design, near, drawn))
    best = max(value * sign for value in values) * sign
    met = any(width_by_hand(design, told, text) == best for told in settings_of(design))
    return best, met


def gaps_by_hand(design, told, text):
    """For each two neighbouring letters the least gap between their points, or None."""
    inner = inner_places(design, told)
    drawn = [drawn_as_at(design, inner, name) for name in text]
    gaps = []
    for one, other in zip(drawn, drawn[1:]):
        way = quantity_at(design[one].width, inner) + shift_at(design, inner, one + other)
        lefts = [x for points in outline_at(design, inner, one) for x, _ in points]
        rights = [x + way for points in outline_at(design, inner, other) for x, _ in points]
        gaps.append(min(rights) - max(lefts) if lefts and rights else None)
    return gaps
