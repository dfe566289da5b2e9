"""Changes of designs, kept to be made later, and made one after another."""

from betweenfaces.cutting import cut
from betweenfaces.errors import InvalidChange
from betweenfaces.flatten import flattened
from betweenfaces.joining import joined
from betweenfaces.leaving import without
from betweenfaces.lists import entries_of
from betweenfaces.plain import plain
from betweenfaces.sparse import sparse


class Change:
    """A change of a design: it is written plainly."""

    WORD = "plain"

    def made(self, design):
        """The design that results."""
        return plain(design)

    def __str__(self):
        return str(self.WORD)


class Cut(Change):
    """A design is cut to a room."""

    WORD = "cut"

    def __init__(self, room):
        self._room = room

    def made(self, design):
        """The design that results."""
        return cut(design, self._room)

    def __str__(self):
        return str(self.WORD)


class Flatten(Change):
    """Letters get the rounds of their parts as their own."""

    WORD = "flatten"

    def __init__(self, *names):
        self._told = entries_of(names)

    def made(self, design):
        """The design that results."""
        return flattened(design, self._told)

    def __str__(self):
        return str(self.WORD)


class Sparse(Change):
    """Rows are written with the fewest touched points."""

    WORD = "sparse"

    def made(self, design):
        """The design that results."""
        return sparse(design)

    def __str__(self):
        return str(self.WORD)


class Leave(Change):
    """Letters are left out."""

    WORD = "leave"

    def __init__(self, *names):
        self._told = entries_of(names)

    def made(self, design):
        """The design that results."""
        return without(design, self._told)

    def __str__(self):
        return str(self.WORD)


class Join(Change):
    """The letters of another design are added."""

    WORD = "join"

    def __init__(self, other):
        self._other = other

    def made(self, design):
        """The design that results."""
        return joined(design, self._other)

    def __str__(self):
        return str(self.WORD)


def changed(design, *changes):
    """The design that results if changes are made in order."""
    told = entries_of(changes)
    for change in told:
        if not isinstance(change, Change):
            raise InvalidChange()
    for change in told:
        design = change.made(design)
    return design
