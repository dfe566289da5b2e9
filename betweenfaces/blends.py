"""Lists of numbers, each times a number of its own, added up in integers, for these are added fast."""

from math import lcm

from betweenfaces.ratios import Ratio, whole


def whole_lists(lists):
    """Lists of numbers times their least common bottom, as lists of integers, and this bottom."""
    tops, bottom = whole([number for numbers in lists for number in numbers])
    split = []
    first = 0
    for numbers in lists:
        split.append(tops[first:first + len(numbers)])
        first = first + len(numbers)
    return split, bottom


def blend(weights, lists):
    """The sum of lists of equally many integers, each times its Ratio: a list of integers, and their bottom."""
    scale = 1
    for weight in weights:
        scale = lcm(scale, weight.bottom)
    total = [0 for _ in lists[0]]
    for weight, numbers in zip(weights, lists):
        if weight:
            factor = weight.top * (scale // weight.bottom)
            total = [top + factor * number for top, number in zip(total, numbers)]
    return total, scale


def flat(points):
    """The numbers of some points, one behind the other."""
    return [number for point in points for number in point]


def in_pairs(tops, bottom):
    """The list of the points whose numbers are these integers, over a bottom."""
    numbers = [Ratio(top, bottom) for top in tops]
    return list(zip(numbers[0::2], numbers[1::2]))
