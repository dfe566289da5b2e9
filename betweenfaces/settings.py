"""Settings: places under the names of axes."""

from betweenfaces.axes import are_by_axis_names, is_axis_name
from betweenfaces.errors import InvalidSetting, UnknownAxis
from betweenfaces.ratios import Ratio, is_number
from betweenfaces.spans import spans_told


class Setting:
    """A place, told or inner, for each of some axes."""

    def __init__(self, **places):
        if not are_by_axis_names(places):
            raise InvalidSetting(None)
        self._names = tuple(sorted(places))
        for name in self._names:
            if not is_number(places[name]):
                raise InvalidSetting(name)
        self._places = {name: Ratio.of(places[name]) for name in self._names}

    @classmethod
    def of(cls, places):
        """The Setting of a dict."""
        if not are_by_axis_names(places):
            raise InvalidSetting(None)
        return Setting(**places)

    @classmethod
    def read(cls, text):
        """The Setting that a line tells."""
        places = {name: numbers[0] for name, numbers in spans_told(text, 1).items()}
        return Setting(**places)

    @property
    def names(self):
        """The ascending tuple of the names."""
        return self._names

    def moved(self, name, place):
        """A Setting with this place under this name."""
        if not is_axis_name(name):
            raise InvalidSetting(None)
        places = {**self._places, name: place}
        return Setting(**places)

    def without(self, name):
        """A Setting without this name."""
        if name not in self:
            raise UnknownAxis(name)
        places = {other: self._places[other] for other in self._names if other != name}
        return Setting(**places)

    def __len__(self):
        return len(self._names)

    def __contains__(self, name):
        return isinstance(name, str) and name in self._places

    def __getitem__(self, name):
        if name not in self:
            raise UnknownAxis(name)
        return self._places[name]

    def __iter__(self):
        return iter(self._names)

    def __eq__(self, other):
        return isinstance(other, Setting) and self._places == other._places

    def __str__(self):
        return " ".join(_words_of(self._places))

    def __repr__(self):
        return f"Setting({', '.join(_words_of(self._places))})"


def _words_of(places):
    """The words that tell places under names."""
    return [f"{name}={place}" for name, place in places.items()]
