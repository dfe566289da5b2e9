"""Where the width of a text falls along an axis."""

from betweenfaces.grids import corners_of, spans_between
from betweenfaces.lists import with_item, without_item
from betweenfaces.nearby import place_over, places_over
from betweenfaces.ratios import Ratio
from betweenfaces.raws import span_insides
from betweenfaces.turns import crossings


def places_with_a_fall(table, side):
    """A dict of places on the axes but that of a side, along which a text falls somewhere; None if there are none."""
    stops, marks = without_item(table.stops, side), without_item(table.marks, side)
    steps = _steps(spans_between(table.marks[side]))
    for crossing in crossings(table, side):
        for step in steps:
            falls = [_fall(table, side, step, crossing, corner) for corner in corners_of(crossing)]
            # How much a text falls is on straight lines, too: it falls within the crossing if it does at a corner.
            places = places_over(stops, marks, crossing, falls, Ratio(0))
            if places is not None:
                return dict(zip(without_item(table.order, side), places))
    return None


def fall_along(profile):
    """Two places, the lesser one first, at the second of which a text is narrower, from a profile that falls."""
    for (span, first, last), (behind, other, end) in zip(profile, [*profile[1:], profile[-1]]):
        if last.under(first):
            low, high = span_insides(span)
            return low, high
        if other.under(last):
            middle = (last + other) * Ratio(1, 2)
            return place_over(span, (first, last), middle), place_over(behind, (-other, -end), -middle)
    return None


def _steps(spans):
    """The steps along an axis at which a text may fall: from the low to the high of a span, and to the next span.

    Each is a pair of tuples (span, number of the place).
    """
    within = [((span, span[0]), (span, span[1])) for span in spans if span[0] != span[1]]
    between = [((span, span[1]), (behind, behind[0])) for span, behind in zip(spans, spans[1:])]
    return within + between


def _fall(table, side, step, crossing, corner):
    """How much less wide a text is behind a step than before it, at a corner of a cell of the other axes."""
    (span, at), (behind, other) = step
    before = table.width_in(with_item(crossing, side, span), with_item(corner, side, at))
    return before - table.width_in(with_item(crossing, side, behind), with_item(corner, side, other))
