"""The points [15], [16], [17] and [19] to [21] of the document in Fractions, by looking at values alone."""

import itertools
from fractions import Fraction

from betweenfaces.quantities import Quantity
from betweenfaces.tents import Reach, Tent
from tests.drawn import inner_place, inner_places, quantity_at, thing_at, value_drawn_as
from tests.drawn import drawn_as_at, in_ratios
from tests.oracle import fraction, ratio

TINY = Fraction(1, 10 ** 9)


def told_with(axis, inner):
    """The least and the greatest told place with an inner place."""
    knots = [(fraction(at), fraction(to)) for at, to in axis.bend]
    found = [] if knots else [inner]
    for (at, to), (other, end) in zip(knots, knots[1:]):
        if to == end == inner:
            found += [at, other]
        elif to <= inner <= end and to < end:
            found.append(at + (other - at) * (inner - to) / (end - to))
    return min(found), max(found)


def turning_places(axis, tents):
    """All told places at which something made of tents may turn: the ends, the home, the knots, and those of the tents."""
    places = {fraction(axis.least), fraction(axis.home), fraction(axis.most)}
    places |= {fraction(at) for at, to in axis.bend}
    for tent in tents:
        for place in (tent.start, tent.peak, tent.end):
            places |= set(told_with(axis, fraction(place)))
    return sorted(places)


def plain_quantity_by_hand(axes, quantity):
    """The plain quantity, with its least places found by slopes and its deltas by sums of values."""
    axes = sorted(axes, key=lambda axis: axis.name)
    places = {axis.name: turning_places(axis, [reach[axis.name] for reach, _ in quantity.rows if axis.name in reach])
              for axis in axes}
    homes = {axis.name: fraction(axis.home) for axis in axes}

    def value(told):
        return quantity_at(quantity, {axis.name: inner_place(axis, told[axis.name]) for axis in axes})

    least = {}
    for axis in axes:
        own = places[axis.name]
        ends = (fraction(axis.least), fraction(axis.home), fraction(axis.most))
        others = [{**dict(zip(places, chosen))} for chosen in itertools.product(
            *[[None] if name == axis.name else places[name] for name in places])]
        least[axis.name] = [place for place in own if place in ends or any(_bends(value, other, axis.name, place) for other in others)]
    rows = []
    for many in range(1, len(axes) + 1):
        for names in itertools.combinations(places, many):
            for peaks in itertools.product(*[[place for place in least[name] if place != homes[name]] for name in names]):
                delta = Fraction(0)
                for size in range(many + 1):
                    for some in itertools.combinations(range(many), size):
                        delta += (-1) ** (many - size) * value({**homes, **{names[at]: peaks[at] for at in some}})
                if delta:
                    rows.append(([{**homes, **dict(zip(names, peaks))}[name] for name in places], dict(zip(names, peaks)), delta))
    told = [(Reach.of({name: _hat(least[name], peak) for name, peak in peaks.items()}), ratio(delta))
            for _, peaks, delta in sorted(rows, key=lambda row: row[0])]
    return Quantity(ratio(value(homes)), *told)


def _bends(value, other, name, place):
    below, here, above = [value({**other, name: at}) for at in (place - TINY, place, place + TINY)]
    return here - below != above - here


def _hat(places, peak):
    at = places.index(peak)
    return Tent(ratio(places[max(0, at - 1)]), ratio(peak), ratio(places[min(len(places) - 1, at + 1)]))


def raw_by_hand(design, thing):
    """The raw places and marks of a thing, a dict of lists of (Ratio, bool)."""
    may = [sorted({name} | {table[name] for _, table in design.swaps if name in table}) for name in thing]
    if len(thing) == 2:
        shifts = [design.pairs[one + other] for one in may[0] for other in may[1] if one + other in design.pairs]
        reaches = [reach for shift in shifts for reach, _ in shift.rows]
    else:
        reaches, waiting, done = [reach for name in may[0] for reach, _ in design[name].width.rows], list(may[0]), set()
        while waiting:
            name = waiting.pop()
            if name not in done:
                done.add(name)
                reaches += [row.reach for row in design[name].rows]
                waiting += [part for part, _, _ in design[name].parts]
    told = {}
    for axis in design.axes:
        places = set(turning_places(axis, [reach[axis.name] for reach in reaches if axis.name in reach]))
        marks = set()
        for box, table in design.swaps:
            if axis.name in box and any(name in table for name in thing):
                low, high = told_with(axis, fraction(box[axis.name][0]))[0], told_with(axis, fraction(box[axis.name][1]))[1]
                marks |= {low} - {fraction(axis.least)} | {high} - {fraction(axis.most)}
        told[axis.name] = [(ratio(place), place in marks) for place in sorted(places | marks)]
    return told


def turn_by_hand(design, thing, name, place, others):
    """How a thing turns at a place of an axis: "jump", "bend" or "", looked at a tiny bit below and above."""
    axis = design.axis(name)
    here = inner_places(design, {**others, name: place})
    told = [thing_at(design, here, thing)]
    near = []
    for step in (-TINY, TINY):
        if fraction(axis.least) <= place + step <= fraction(axis.most):
            inner = inner_places(design, {**others, name: place + step})
            drawn = "".join(drawn_as_at(design, inner, letter) for letter in thing)
            told.append(value_drawn_as(design, here, drawn))
            near.append(numbers(value_drawn_as(design, inner, drawn)))
    if any(value != told[0] for value in told):
        return "jump"
    if len(near) == 2 and any(low + high != 2 * mid for low, mid, high in zip(near[0], numbers(told[0]), near[1])):
        return "bend"
    return ""


def numbers(value):
    """All numbers of a value, one behind the other."""
    if isinstance(value, Fraction):
        return [value]
    return [number for part in value for number in numbers(part)]


def some_between(places):
    """Ascending places with two more between each two neighbours."""
    told = []
    for low, high in zip(places, places[1:]):
        told += [low, low + (high - low) / 3, high - (high - low) / 3]
    return told + places[-1:]


def form_by_hand(design, thing):
    """The form of a thing, found by looking at values only, close around its raw places."""
    raw = {name: [fraction(place) for place, _ in places] for name, places in raw_by_hand(design, thing).items()}
    axes = []
    for name, places in raw.items():
        others = [other for other in raw if other != name]
        grids = [dict(zip(others, chosen)) for chosen in itertools.product(*[some_between(raw[other]) for other in others])]
        own = []
        for place in places:
            turns = {turn_by_hand(design, thing, name, place, grid) for grid in grids}
            if "jump" in turns or "bend" in turns or place in (places[0], places[-1]):
                own.append((place, "jump" in turns))
        axes.append((name, own))
    spans = [spans_by_hand(places) for _, places in axes]
    table = [[in_ratios(_continued(design, thing, raw, corner)) for corner in itertools.product(*[_ends(span) for span in cell])]
             for cell in itertools.product(*spans)]
    return [(name, [(ratio(place), jump) for place, jump in places]) for name, places in axes], table


def spans_by_hand(places):
    """The spans of places (place, whether it is marked)."""
    spans = []
    for at, (place, marked) in enumerate(places):
        if marked:
            spans.append((place, place))
        if at + 1 < len(places):
            spans.append((place, places[at + 1][0]))
    return spans


def _ends(span):
    """The ends of a span, each with the place within the span from which it is looked at."""
    low, high = span
    return [(low, low)] if low == high else [(low, low + TINY), (high, high - TINY)]


def _continued(design, thing, raw, corner):
    """The value at a corner, drawn as it is drawn close to it within the cell."""
    close = inner_places(design, {name: near for name, (_, near) in zip(raw, corner)})
    drawn = "".join(drawn_as_at(design, close, name) for name in thing)
    return value_drawn_as(design, inner_places(design, {name: place for name, (place, _) in zip(raw, corner)}), drawn)
