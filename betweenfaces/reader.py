"""Axes, settings, rooms and designs, read from their texts."""

from betweenfaces.axes import Axis
from betweenfaces.designlines import design_of
from betweenfaces.errors import InvalidText
from betweenfaces.rooms import Room
from betweenfaces.settings import Setting


def read_axis(text):
    """The axis that any value writes."""
    return Axis.read(text)


def read_setting(text):
    """The setting that any value writes."""
    return Setting.read(text)


def read_room(text):
    """The room that any value writes."""
    return Room.read(text)


def read_design(text):
    """The design that any value writes."""
    if not isinstance(text, str):
        raise InvalidText(0, 0)
    return design_of(text.split("\n"))
