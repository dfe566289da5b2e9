"""Designs for the tests: made at random from a seed, with what the document names as edges coming often."""

import random

from betweenfaces.axes import Axis
from betweenfaces.designs import Design
from betweenfaces.letters import Letter
from betweenfaces.quantities import Quantity
from betweenfaces.ratios import Ratio
from betweenfaces.rows import FullRow, SparseRow
from betweenfaces.settings import Setting
from betweenfaces.tents import Reach, Tent


class Maker:
    """Makes designs and what belongs to them; the same ones for the same seed."""

    def __init__(self, seed, steps=4):
        self.chance = random.Random(seed)
        # All places are whole numbers of parts of an axis: so they meet often.
        self.steps = steps

    def number(self, size=9):
        top = self.chance.randint(-size, size)
        return top if self.chance.random() < 0.7 else Ratio(top, self.chance.choice((2, 3, 4)))

    def axis(self, name):
        """An axis from 0 to 4 (or 1 to 5) with places at whole numbers, some at halves."""
        least = self.chance.choice((0, 0, 0, 1))
        most = least + self.steps
        home = self.chance.choice((least, least, most, self.chance.randint(least, most)))
        return Axis(name, least=least, home=home, most=most, bend=self.bend(least, home, most))

    def bend(self, least, home, most):
        if self.chance.random() < 0.5:
            return ()
        ats = sorted({least, home, most, *[self.chance.randint(least, most) for _ in range(2)]})
        knots = []
        for at in ats:
            if at in (least, home, most):
                knots.append((at, at))
            else:
                floor = max([knots[-1][1], least if at < home else home])
                knots.append((at, self.chance.randint(floor, home if at < home else most)))
        return knots

    def tent(self, axis):
        """A tent that fits an axis."""
        least, home, most = [int(str(place)) for place in (axis.least, axis.home, axis.most)]
        while True:
            low, high = (home, most) if self.chance.random() < 0.5 else (least, home)
            start, peak, end = sorted(self.chance.randint(low, high) for _ in range(3))
            if start < end:
                tent = Tent(start, peak, end)
                if tent.fits(axis):
                    return tent

    def reach(self, axes):
        names = self.chance.sample(list(axes), self.chance.choice([1, 1, 2, 3][:len(axes) + 1]))
        return Reach.of({axis.name: self.tent(axis) for axis in names})

    def quantity(self, axes, rows=2, home=None):
        told = [(self.reach(axes), self.number()) for _ in range(self.chance.randint(0, rows if axes else 0))]
        if told and self.chance.random() < 0.2:
            told.append((told[0][0], -Ratio.of(told[0][1])))
        return Quantity(self.number() if home is None else home, *told)

    def round(self, most=4):
        return [(self.number(3), self.number(3)) for _ in range(self.chance.randint(1, most))]

    def row(self, axes, spots):
        if self.chance.random() < 0.5:
            return FullRow(self.reach(axes), [(self.number(3), self.number(3)) for _ in range(spots)])
        touched = [spot for spot in range(spots) if self.chance.random() < 0.6]
        return SparseRow(self.reach(axes), {spot: (self.number(3), self.number(3)) for spot in touched})

    def letter(self, axes, below="", rows=2):
        """A letter with parts among the letters below it."""
        rounds = [self.round() for _ in range(self.chance.choice((0, 1, 1, 2)))]
        many = self.chance.choice((0, 0, 1, 2)) if below else 0
        parts = [(self.chance.choice(below), self.number(3), self.number(3)) for _ in range(many)]
        spots = sum(map(len, rounds)) + len(parts)
        told = [self.row(axes, spots) for _ in range(self.chance.randint(0, rows if axes else 0))]
        return Letter.of(self.quantity(axes), rounds, parts, told)

    def swap(self, axes, names):
        box = {}
        for axis in self.chance.sample(list(axes), self.chance.randint(0, len(axes))):
            least, most = int(str(axis.least)), int(str(axis.most))
            low, high = sorted(self.chance.randint(least, most) for _ in range(2))
            box[axis.name] = (low, high)
        froms = self.chance.sample(names, self.chance.randint(1, min(2, len(names))))
        return box, {name: self.chance.choice(names) for name in froms}

    def design(self, names="wt", letters="abcd", rows=2, swaps=3):
        axes = [self.axis(name) for name in names]
        told = {name: self.letter(axes, letters[:index], rows) for index, name in enumerate(letters)}
        pairs = {self.chance.choice(letters) + self.chance.choice(letters): self.quantity(axes) for _ in range(2)}
        made = [self.swap(axes, letters) for _ in range(self.chance.randint(0, swaps))]
        return Design(axes, told, pairs=pairs, swaps=made)

    def place(self, axis):
        """A told place: an end, a place at which something may turn, or one between."""
        parts = 2 * self.steps if self.chance.random() < 0.6 else 7 * self.steps
        return axis.least + (axis.most - axis.least) * Ratio(self.chance.randint(0, parts), parts)

    def setting(self, axes):
        return Setting.of({axis.name: self.place(axis) for axis in axes})

    def text(self, letters, most=4):
        return "".join(self.chance.choice(letters) for _ in range(self.chance.randint(0, most)))
