"""What several tests use: odd values of all kinds, and a test case that looks at the errors raised."""

import unittest

from betweenfaces.axes import Axis
from betweenfaces.changes import Change, Cut, Leave
from betweenfaces.designs import Design
from betweenfaces.desk import Desk
from betweenfaces.errors import InvalidTent, UnknownAxis
from betweenfaces.letters import Letter
from betweenfaces.quantities import Quantity
from betweenfaces.ratios import Ratio
from betweenfaces.rooms import Room
from betweenfaces.rows import FullRow, SparseRow
from betweenfaces.settings import Setting
from betweenfaces.tents import Reach, Tent

HALF = Ratio(1, 2)


def nested(depth):
    """A value with this many tuples around it."""
    value = 1
    for _ in range(depth):
        value = (value,)
    return value


def odd_values():
    """New values of all kinds, numbers and names among them."""
    reach = Reach(w=Tent(0, 1, 1))
    return [
        None, True, False, 0, 1, -1, 7, 10 ** 59, -10 ** 59, HALF, Ratio(3), Ratio(-2, 3),
        "", " ", "\n", "a", "w", "ab", "A", "self", "weight", "weights-", "letters", "toolongname", "1", "1/2", "w=1",
        "axis w 0 0 1", "x" * 4000,
        (), (1,), (1, 2), (2, 1), (1, 1), (0, 1, 2), (0, 1, 2, 3), (None, 1), (True, 1), ("a", 1), (HALF, HALF),
        [], [1], [1, 2], [(1, 2)], [(0, 0), (1, 1)], {}, {"w": 1}, {"w": (0, 1)}, {1: 2}, {None: 1}, {"W": 1},
        {"self": 1}, {("w",): 1}, {0: (1, 2)}, {True: (1, 2)}, {"w": Tent(0, 1, 1)}, nested(20), ([], {}),
        Axis("w", least=0, home=0, most=1), Setting(), Setting(w=1), Room(), Room(w=(0, 1)), Tent(0, 1, 1), reach,
        Quantity(1), Quantity(1, (reach, 2)), FullRow(reach, []), SparseRow(reach, {}), Letter(Quantity(1)),
        Letter(Quantity(1), [(0, 0)]), (reach, 1), (1, reach), [(reach, 1)], [Quantity(1)], InvalidTent(),
        UnknownAxis("w"), Change(), Cut(Room()), Leave("a"), Design([], {"a": Letter(Quantity(1))}), [Change()],
        Desk(), Desk().tried("undo"),
    ]


def is_a_number(value):
    return isinstance(value, Ratio) or (isinstance(value, int) and not isinstance(value, bool))


def kind_of(value):
    """A text that tells values of all kinds apart; it is the same for two alike values."""
    if isinstance(value, (list, tuple)):
        return f"{type(value).__name__}({', '.join(kind_of(part) for part in value)})"
    if isinstance(value, dict):
        return f"dict({', '.join(f'{kind_of(key)}: {kind_of(value[key])}' for key in value)})"
    if hasattr(value, "__dict__") and type(value).__module__.startswith("betweenfaces"):
        return f"{type(value).__name__}{kind_of(vars(value))}"
    return f"{type(value).__name__} {value!r}"


class Case(unittest.TestCase):
    """A test case that looks at errors with all that they keep."""

    def refused(self, error, call, *args, **named):
        """The call raises just this error, with the same attributes, and changes nothing that it is passed."""
        ahead = kind_of((args, named))
        with self.assertRaises(type(error), msg=ahead) as caught:
            call(*args, **named)
        self.assertIs(type(caught.exception), type(error), ahead)
        kept, told = vars(caught.exception), vars(error)
        self.assertEqual(list(kept), list(told), ahead)
        for field in told:
            self.assertTrue(kept[field] is told[field] or kind_of(kept[field]) == kind_of(told[field]), ahead)
        self.assertEqual(kind_of((args, named)), ahead)

    def same(self, one, other):
        """The values are equal, of the same kinds throughout."""
        self.assertEqual(kind_of(one), kind_of(other))

    def equal(self, one, other):
        """The two objects are equal, in both directions, and tell so as bools."""
        self.assertIs(one == other, True)
        self.assertIs(other == one, True)
        self.assertIs(one != other, False)

    def unequal(self, one, other):
        """The two values are not equal, in both directions."""
        self.assertIs(one == other, False, kind_of((one, other)))
        self.assertIs(other == one, False, kind_of((one, other)))
        self.assertIs(one != other, True)

    def asked_by_names(self, made, names):
        """Of any value the object tells whether it is one of the names; asked for another one, it raises UnknownAxis."""
        for value in odd_values():
            told = isinstance(value, str) and value in names
            self.assertIs(value in made, told)
            if not told:
                with self.assertRaises(UnknownAxis) as caught:
                    made[value]
                self.assertIs(caught.exception.name, value)

    def equal_to_none(self, one):
        """The object is equal to none of the odd values that are of another class."""
        for value in odd_values():
            if type(value) is not type(one):
                self.unequal(one, value)
