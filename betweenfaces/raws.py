"""Raw places and marks, and the spans and cells that places make."""

from betweenfaces.lists import choices_of
from betweenfaces.ratios import Ratio, ascending


def told_places(axis, tents):
    """The told places at which a bend, or the scalar of one of the tents on an axis, may turn."""
    inner = ascending([place for tent in tents for place in (tent.start, tent.peak, tent.end)])
    return [at for at, _ in axis.bend] + [place for turn in inner for place in axis.back(turn, turn)]


def raw_places(stock, thing):
    """A dict that gives each axis the ascending list of the raw places of a thing: (place, whether it is a mark)."""
    return places_for(stock, stock.reaches(thing), stock.boxes(thing))


def all_places(stock):
    """The same for the raw places of all things of a design."""
    return places_for(stock, stock.all_reaches(), [box for box, _ in stock.rules])


def places_for(stock, reaches, boxes):
    """The same for what depends on some reaches and boxes."""
    places = {}
    for axis in stock.scales:
        name = axis.name
        tents = [reach[name] for reach in reaches if name in reach]
        places[name] = _places_on(axis, tents, [box[name] for box in boxes if name in box])
    return places


def spans_of(places):
    """The ascending list of the spans that ascending places (place, whether it is marked) make."""
    spans = []
    for at, (place, marked) in enumerate(places):
        if marked:
            spans.append((place, True, place, True))
        if at + 1 < len(places):
            behind, other = places[at + 1]
            spans.append((place, not marked, behind, not other))
    return spans


def combined(choices):
    """The list of the dicts that give each name one of its choices, the last name changing fastest."""
    names = sorted(choices)
    return [dict(zip(names, chosen)) for chosen in choices_of([choices[name] for name in names])]


def span_ends(span):
    """The ends of a span, the low one first; a span of one place has one end."""
    low, high = Ratio.of(span[0]), Ratio.of(span[2])
    return [low] if low == high else [low, high]


def span_insides(span):
    """The place of a span of one place, or the places at a third and at two thirds of a span."""
    low, high = Ratio.of(span[0]), Ratio.of(span[2])
    if low == high:
        return [low]
    third = (high - low) * Ratio(1, 3)
    return [low + third, high - third]


def _places_on(axis, tents, stretches):
    """The raw places, and whether each is a mark, that tents and the stretches of boxes make on an axis."""
    ends = [axis.back(low, high) for low, high in stretches]
    lows = [low for low, _ in ends if axis.least.under(low)]
    highs = [high for _, high in ends if high.under(axis.most)]
    marks = ascending(lows + highs)
    told = [axis.least, axis.home, axis.most] + told_places(axis, tents)
    return [(place, place in marks) for place in ascending(told + marks)]
