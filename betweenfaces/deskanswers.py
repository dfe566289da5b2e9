"""The answers to the lines of a desk that change nothing."""

from betweenfaces.alike import alike
from betweenfaces.clear import clear
from betweenfaces.drawing import width
from betweenfaces.forms import form
from betweenfaces.lines import settings_of_width
from betweenfaces.rising import rises
from betweenfaces.texts import design_text
from betweenfaces.widths import narrower, narrowest, wider, widest


def alike_answer(design, other):
    """How a design and another one are drawn."""
    found = alike(design, other)
    if found[0] == "alike":
        return "alike"
    if found[0] == "letters":
        return f"letters {found[1]}"
    return f"unlike {_or_none(str(found[1]))} {found[2]}"


def _show(design):
    """The text of the design."""
    return " / ".join(design_text(design).split("\n"))


def _axes(design):
    """The axes with their spans."""
    return _or_none(", ".join([f"{axis.name} {axis.least} {axis.home} {axis.most}" for axis in design.axes]))


def _letters(design):
    """The letters."""
    return "".join(design.names)


def _width(design, setting, text):
    """The width of a text."""
    return str(width(design, setting, text))


def _draw(design, setting, text):
    """The picture of a text."""
    rounds, end = design(setting, text)
    drawn = "; ".join([" ".join([f"{x},{y}" for x, y in points]) for points in rounds])
    return f"{_or_none(drawn)} | {end}"


def _places(design, thing):
    """The places of the form of a thing."""
    told = []
    for name, places in form(design, thing)[0]:
        told.append(" ".join([name, *[_place_text(place, jump) for place, jump in places]]))
    return _or_none(", ".join(told))


def _widest(design, text):
    """The greatest width of a text."""
    return _bound_text(widest(design, text))


def _narrowest(design, text):
    """The least width of a text."""
    return _bound_text(narrowest(design, text))


def _wider(design, text, limit):
    """Where a text is wider than a limit."""
    return _found_text(wider(design, text, limit))


def _narrower(design, text, limit):
    """Where a text is narrower than a limit."""
    return _found_text(narrower(design, text, limit))


def _rises(design, axis, text):
    """Whether a text never gets narrower along an axis, or where it does."""
    found = rises(design, text, axis)
    return "yes" if found is None else f"{found[0]} > {found[1]}"


def _line(design, limit, axis, setting, text):
    """The pieces of an axis on which a text is just so wide."""
    pieces = [_piece_text(piece) for piece in settings_of_width(design, text, limit, axis, setting)]
    return _or_none(", ".join(pieces))


def _clear(design, gap, text):
    """Whether neighbouring letters stay clear of each other, or where they do not."""
    found = clear(design, text, gap)
    return "yes" if found is None else f"{_or_none(str(found[0]))} {found[1]}"


def _or_none(text):
    """A text, or what stands for none."""
    return "-" if text == "" else text


def _place_text(place, jump):
    """A place of a form; a jump has a mark."""
    return f"{place}!" if jump else str(place)


def _bound_text(bound):
    """The greatest or the least width with the setting at which, or near which, it is."""
    value, setting, met = bound
    word = "at" if met else "near"
    return f"{value} {word} {_or_none(str(setting))}"


def _found_text(setting):
    """A setting that was found, or None."""
    return "no" if setting is None else _or_none(str(setting))


def _piece_text(piece):
    """A piece of an axis, with a bracket at an end that belongs to it."""
    low, with_low, high, with_high = piece
    begin, end = "[" if with_low else "(", "]" if with_high else ")"
    return f"{begin}{low} {high}{end}"


ANSWERS = {"show": _show, "axes": _axes, "letters": _letters, "width": _width, "draw": _draw, "places": _places,
           "widest": _widest, "narrowest": _narrowest, "wider": _wider, "narrower": _narrower, "rises": _rises,
           "line": _line, "clear": _clear}
