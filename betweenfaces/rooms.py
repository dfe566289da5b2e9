"""Rooms: pins and stretches under the names of axes."""

from betweenfaces.axes import are_by_axis_names
from betweenfaces.errors import InvalidRoom, UnknownAxis
from betweenfaces.ratios import Ratio, greatest, is_number, is_stretch, is_within, least, put_into
from betweenfaces.spans import spans_told


class Room:
    """A pin, or a stretch perhaps with a home, for each of some axes."""

    def __init__(self, **spans):
        if not are_by_axis_names(spans):
            raise InvalidRoom(None)
        self._names = tuple(sorted(spans))
        for name in self._names:
            if not _is_span(spans[name]):
                raise InvalidRoom(name)
        self._spans = {name: _parts_of(spans[name]) for name in self._names}

    @classmethod
    def of(cls, spans):
        """The Room of a dict."""
        if not are_by_axis_names(spans):
            raise InvalidRoom(None)
        return Room(**spans)

    @classmethod
    def read(cls, text):
        """The Room that a line tells."""
        told = spans_told(text, 3)
        spans = {name: numbers[0] if len(numbers) == 1 else tuple(numbers) for name, numbers in told.items()}
        return Room(**spans)

    @property
    def names(self):
        """The ascending tuple of the names."""
        return self._names

    def holds(self, setting):
        """Whether a Setting has a place in each span."""
        for name in self._names:
            low, _, high = self._spans[name]
            if name not in setting or not is_within(low, setting[name], high):
                return False
        return True

    def __and__(self, other):
        spans = {}
        for name in sorted(set([*self._spans, *other._spans])):
            low, home, high = _common(self._spans.get(name), other._spans.get(name))
            if high.under(low):
                return None
            spans[name] = _span_of(low, home, high)
        return Room(**spans)

    def __len__(self):
        return len(self._names)

    def __contains__(self, name):
        return isinstance(name, str) and name in self._spans

    def __getitem__(self, name):
        if name not in self:
            raise UnknownAxis(name)
        return self._spans[name]

    def __iter__(self):
        return iter(self._names)

    def __eq__(self, other):
        return isinstance(other, Room) and self._spans == other._spans

    def __str__(self):
        return " ".join(_words_of(self._spans))

    def __repr__(self):
        return f"Room({', '.join(_words_of(self._spans))})"


def _is_span(value):
    """Whether any value is a pin or a stretch, perhaps with a home."""
    if not isinstance(value, tuple):
        return is_number(value)
    return 2 <= len(value) <= 3 and is_stretch(value[0], value[-2], value[-1])


def _parts_of(span):
    """The low, the home or None, and the high of a span, as Ratios."""
    if not isinstance(span, tuple):
        return Ratio.of(span), Ratio.of(span), Ratio.of(span)
    home = Ratio.of(span[1]) if len(span) == 3 else None
    return Ratio.of(span[0]), home, Ratio.of(span[-1])


def _span_of(low, home, high):
    """The span with these parts, as a Room is passed it."""
    if low == high:
        return low
    return (low, high) if home is None else (low, home, high)


def _common(one, other):
    """The parts of what lies in two spans, or of the one that is not None; the high is under the low for nothing."""
    if one is None:
        return other
    if other is None:
        return one
    low, high = greatest([one[0], other[0]]), least([one[2], other[2]])
    home = one[1] if other[1] is None else other[1]
    if home is None:
        return low, None, high
    return low, put_into(low, home, high), high


def _words_of(spans):
    """The words that tell spans under names."""
    return [f"{name}={_span_text(parts)}" for name, parts in spans.items()]


def _span_text(parts):
    """The text of a span with these parts."""
    low, home, high = parts
    if low == high:
        return str(low)
    return "..".join([str(number) for number in (low, home, high) if number is not None])
