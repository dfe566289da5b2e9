"""Forms: what tells how a thing is drawn, however the design says it."""

from betweenfaces.asking import check_setting, check_thing
from betweenfaces.grids import corners_of, inside_of, spans_between
from betweenfaces.lists import choices_of, without_item
from betweenfaces.reading import ToldTable
from betweenfaces.sheets import Shelf
from betweenfaces.tables import raw_table
from betweenfaces.there import turn_there
from betweenfaces.turns import bends_at, crossings, jumps_at, kept_places


def form(design, thing):
    """The form of a thing: (axes, table)."""
    check_thing(design.stock, thing)
    return form_on(Shelf(design.stock), thing)


def form_on(shelf, thing):
    """The form of a thing of a design whose sheets are kept."""
    raw = raw_table(shelf, thing)
    kept = kept_places(raw)
    axes = []
    for name, stops, places in zip(raw.order, raw.stops, kept):
        axes.append((name, [(stops[at], jump) for at, jump in places]))
    cells = choices_of([spans_between([jump for _, jump in places]) for places in kept])
    return axes, [_values(raw, kept, cell) for cell in cells]


def forms(design):
    """The list of tuples (thing, form) of all letters, and of the pairs that have a shift other than 0 somewhere."""
    return forms_on(Shelf(design.stock))


def forms_on(shelf):
    """The same for a design whose sheets are kept."""
    stock = shelf.stock
    told = [(name, form_on(shelf, name)) for name in stock.glyphs]
    for one in stock.glyphs:
        for other in stock.glyphs:
            pair = one + other
            if stock.has_shift(pair):
                paper = form_on(shelf, pair)
                if is_shifted(paper):
                    told.append((pair, paper))
    return told


def is_shifted(paper):
    """Whether the form of a pair has a shift other than 0."""
    return any([shift for shifts in paper[1] for shift in shifts])


def at_form(told, setting):
    """The value, at a setting, of the thing whose form this is."""
    axes, table = told
    check_setting({name: (places[0][0], places[-1][0]) for name, places in axes}, setting)
    return ToldTable(axes, table).value_at(setting)


def reasons(design, thing):
    """The list of tuples (axis, place, word, setting) that show why the form has its places and jumps."""
    check_thing(design.stock, thing)
    raw = raw_table(Shelf(design.stock), thing)
    found = []
    for side, places in enumerate(kept_places(raw)):
        for at, jump in places:
            if jump or 0 < at < len(raw.stops[side]) - 1:
                found.append(_reason(raw, side, (at, jump)))
    return found


def _values(raw, kept, cell):
    """The values at the corners of a cell of a form, each continued from the raw cell next to the corner."""
    sides = []
    for places, (low, high) in zip(kept, cell):
        first, last = places[low][0], places[high][0]
        if first == last:
            sides.append([((first, first), first)])
        else:
            sides.append([((first, first + 1), first), ((last - 1, last), last)])
    corners = choices_of(sides)
    return [raw.continued(tuple([span for span, _ in ends]), tuple([at for _, at in ends])) for ends in corners]


def _reason(raw, side, place):
    """Why the form has a place (number, whether it is a jump)."""
    at, jump = place
    name, word = raw.order[side], "jump" if jump else "bend"
    others, stops = without_item(raw.order, side), without_item(raw.stops, side)
    turns_at = jumps_at if jump else bends_at
    for crossing in crossings(raw, side):
        if any([turns_at(raw, side, at, crossing, corner) for corner in corners_of(crossing)]):
            # Numbers that are straight along each axis and not 0 at all corners are not 0 at one of these.
            for setting in inside_of(others, stops, crossing):
                if turn_there(raw.shelf, raw.text, (name, raw.stops[side][at]), setting) == word:
                    return name, raw.stops[side][at], word, setting
    return None
