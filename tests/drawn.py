"""The points [4] to [12] and [14] of the document in Fractions, as plainly as they are told there."""

from fractions import Fraction

from betweenfaces.rows import FullRow
from tests.oracle import fraction, moves_of_round, ratio


def inner_place(axis, place):
    """The inner place of a told place, a Fraction."""
    knots = [(fraction(at), fraction(to)) for at, to in axis.bend]
    for (at, to), (other, end) in zip(knots, knots[1:]):
        if at <= place <= other:
            return to + (end - to) * (place - at) / (other - at)
    return place


def inner_places(design, places):
    """The inner places of told places, dicts of Fractions by names."""
    return {axis.name: inner_place(axis, places[axis.name]) for axis in design.axes}


def told(setting):
    return {name: fraction(setting[name]) for name in setting}


def tent_at(tent, place):
    start, peak, end = fraction(tent.start), fraction(tent.peak), fraction(tent.end)
    if place == peak:
        return Fraction(1)
    if place <= start or place >= end:
        return Fraction(0)
    return (place - start) / (peak - start) if place < peak else (end - place) / (end - peak)


def scalar(reach, inner):
    product = Fraction(1)
    for name in reach:
        product *= tent_at(reach[name], inner[name])
    return product


def quantity_at(quantity, inner):
    return fraction(quantity.home) + sum(scalar(reach, inner) * fraction(delta) for reach, delta in quantity.rows)


def filled(letter, row):
    """The moves of all spots, pairs of Fractions."""
    if isinstance(row, FullRow):
        return [(fraction(x), fraction(y)) for x, y in row.moves]
    touched = dict(row.moves)
    moves, first = [], 0
    for points in letter.rounds:
        own = {index: touched[first + index] for index in range(len(points)) if first + index in touched}
        moves += [(fraction(x), fraction(y)) for x, y in moves_of_round(points, own)]
        first += len(points)
    for spot in range(first, len(letter.spots)):
        x, y = touched.get(spot, (0, 0))
        moves.append((fraction(x), fraction(y)))
    return moves


def spots_at(letter, inner):
    spots = [(fraction(x), fraction(y)) for x, y in letter.spots]
    for row in letter.rows:
        by = scalar(row.reach, inner)
        spots = [(x + by * p, y + by * q) for (x, y), (p, q) in zip(spots, filled(letter, row))]
    return spots


def outline_at(design, inner, name):
    letter = design[name]
    spots = spots_at(letter, inner)
    rounds, first = [], 0
    for points in letter.rounds:
        rounds.append(spots[first:first + len(points)])
        first += len(points)
    for (part, _, _), (x, y) in zip(letter.parts, spots[first:]):
        rounds += [[(p + x, q + y) for p, q in points] for points in outline_at(design, inner, part)]
    return rounds


def drawn_as_at(design, inner, name):
    for box, table in design.swaps:
        if name in table and all(fraction(low) <= inner[axis] <= fraction(high) for axis, (low, high) in box.items()):
            return table[name]
    return name


def shift_at(design, inner, pair):
    return quantity_at(design.pairs[pair], inner) if pair in design.pairs else Fraction(0)


def picture_at(design, inner, text):
    pen, rounds, before = Fraction(0), [], None
    for name in text:
        drawn = drawn_as_at(design, inner, name)
        if before is not None:
            pen += shift_at(design, inner, before + drawn)
        rounds += [[(x + pen, y) for x, y in points] for points in outline_at(design, inner, drawn)]
        pen += quantity_at(design[drawn].width, inner)
        before = drawn
    return rounds, pen


def value_drawn_as(design, inner, drawn):
    """The value of a thing that is drawn as these letters."""
    if len(drawn) == 2:
        return shift_at(design, inner, drawn)
    return outline_at(design, inner, drawn), quantity_at(design[drawn].width, inner)


def thing_at(design, inner, thing):
    return value_drawn_as(design, inner, "".join(drawn_as_at(design, inner, name) for name in thing))


def in_ratios(value):
    """A value or picture of Fractions as the program tells it."""
    if isinstance(value, Fraction):
        return ratio(value)
    return type(value)(in_ratios(part) for part in value)
