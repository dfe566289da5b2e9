"""The designs of the document's examples, and some more that several tests use."""

from betweenfaces.axes import Axis
from betweenfaces.designs import Design
from betweenfaces.letters import Letter
from betweenfaces.quantities import Quantity
from betweenfaces.ratios import Ratio
from betweenfaces.rows import FullRow
from betweenfaces.tents import Reach, Tent

HALF = Ratio(1, 2)
UP = Reach(w=Tent(0, 1, 1))


def axis_w():
    return Axis("w", least=0, home=0, most=1)


def drawn_design():
    """The design of the example of the drawing module."""
    wide = Quantity(10, (UP, 4))
    a, b = Letter(Quantity(10), [(0, 0), (8, 0)]), Letter(wide, [(0, 0)], parts=[("a", 2, 5)])
    return Design([axis_w()], {"a": a, "b": b}, pairs={"ab": Quantity(-1)}, swaps=[({"w": (1, 1)}, {"b": "a"})])


def jumping_design():
    """The design of the example of forms."""
    i, j = Letter(Quantity(10, (UP, 6))), Letter(Quantity(20))
    return Design([axis_w()], {"i": i, "j": j}, swaps=[({"w": (HALF, 1)}, {"i": "j"})])


def example_quantity():
    """The quantity y of the examples of the plain and the cutting module, on an axis a from 0 to 1."""
    return Quantity(100, (Reach(a=Tent(0, 1, 1)), 50), (Reach(a=Tent(0, HALF, 1)), -10))


def example_design():
    return Design([Axis("a", least=0, home=0, most=1)], {"y": Letter(example_quantity())})


def flattening_design():
    """The design of the example of the flatten module."""
    b = Letter(Quantity(20), [(0, 0), (10, 0), (10, 20)])
    d = Letter(Quantity(30), parts=[("b", 5, 0)], rows=[FullRow(UP, [(2, 0)])])
    return Design([axis_w()], {"b": b, "d": d})


def swapping_design():
    """Letters a to d, each as wide as its number from 1 on, and swaps whose boxes overlap."""
    letters = {name: Letter(Quantity(number), [(number, 0)]) for number, name in enumerate("abcd", 1)}
    swaps = [({"w": (HALF, 1)}, {"a": "b"}), ({}, {"b": "c", "d": "d"}), ({"w": (1, 1)}, {"c": "a"}), ({}, {"a": "d"})]
    return Design([axis_w()], letters, swaps=swaps)


def nested_design():
    """Letters with parts four deep, which all move along the axis w."""
    letters = {"a": Letter(Quantity(1), [(0, 0), (1, 0)], rows=[FullRow(UP, [(0, 1), (1, 0)])])}
    for before, name in zip("abcd", "bcde"):
        parts = [(before, 10, 0), (before, 0, Ratio(1, 3))]
        rows = [FullRow(UP, [(0, 0), (1, 1), (2, 0)])]
        letters[name] = Letter(Quantity(5), [(7, 7)], parts=parts, rows=rows)
    return Design([axis_w()], letters)
