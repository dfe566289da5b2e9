"""Tents on one axis, and reaches, which give some axes a tent each."""

from betweenfaces.axes import are_by_axis_names
from betweenfaces.errors import InvalidTent, UnknownAxis
from betweenfaces.ratios import Ratio, is_stretch, share


class Tent:
    """Three inner places: 1 at the peak, 0 at and beyond the start and the end."""

    def __init__(self, start, peak, end):
        if not is_stretch(start, peak, end):
            raise InvalidTent()
        self.start = Ratio.of(start)
        self.peak = Ratio.of(peak)
        self.end = Ratio.of(end)
        self._nothing = Ratio(0)

    def __call__(self, place):
        at = Ratio.of(place)
        if at == self.peak:
            return Ratio(1)
        if not self.start.under(at) or not at.under(self.end):
            return self._nothing
        return share(self.start if at.under(self.peak) else self.end, at, self.peak)

    def fits(self, axis):
        """Whether the tent lies on one side of the home of an axis, is 0 there and does not jump."""
        return self._fits_above(axis) or self._fits_below(axis)

    def _fits_above(self, axis):
        """Whether the tent fits behind the home."""
        if self.start.under(axis.home) or axis.most.under(self.end):
            return False
        return self.start.under(self.peak) and (self.peak.under(self.end) or self.peak == axis.most)

    def _fits_below(self, axis):
        """Whether the tent fits ahead of the home."""
        if self.start.under(axis.least) or axis.home.under(self.end):
            return False
        return self.peak.under(self.end) and (self.start.under(self.peak) or self.peak == axis.least)

    def __eq__(self, other):
        if not isinstance(other, Tent):
            return False
        return self.start == other.start and self.peak == other.peak and self.end == other.end

    def __str__(self):
        return f"{self.start}..{self.peak}..{self.end}"

    def __repr__(self):
        return f"Tent({self.start}, {self.peak}, {self.end})"


class Reach:
    """A tent for each of one axis or more."""

    def __init__(self, **tents):
        if not _is_reach(tents):
            raise InvalidTent()
        self._names = tuple(sorted(tents))
        self._tents = {name: tents[name] for name in self._names}

    @classmethod
    def of(cls, tents):
        """The Reach of a dict."""
        if not _is_reach(tents):
            raise InvalidTent()
        return Reach(**tents)

    @property
    def names(self):
        """The ascending tuple of the names."""
        return self._names

    def __call__(self, places):
        for name in self._names:
            if name not in places:
                raise UnknownAxis(name)
        scalar = None
        for name, tent in self._tents.items():
            own = tent(places[name])
            if not own:
                return own
            scalar = own if scalar is None else scalar * own
        return scalar

    def fits(self, axes):
        """Whether each name is that of one of the axes, and its tent fits this axis."""
        return all([self._fits_one(name, axes) for name in self._names])

    def _fits_one(self, name, axes):
        """Whether one of the axes has this name, and the tent under it fits."""
        return any([axis.name == name and self._tents[name].fits(axis) for axis in axes])

    def __len__(self):
        return len(self._names)

    def __contains__(self, name):
        return isinstance(name, str) and name in self._tents

    def __getitem__(self, name):
        if name not in self:
            raise UnknownAxis(name)
        return self._tents[name]

    def __iter__(self):
        return iter(self._names)

    def __eq__(self, other):
        return isinstance(other, Reach) and self._tents == other._tents

    def __str__(self):
        return "*".join([f"{name}:{tent}" for name, tent in self._tents.items()])

    def __repr__(self):
        return f"Reach({self})"


def _is_reach(value):
    """Whether any value is a dict from names of axes to Tents, one at least."""
    if not are_by_axis_names(value) or not value:
        return False
    return all([isinstance(tent, Tent) for tent in value.values()])
