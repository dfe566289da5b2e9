"""The texts of settings and rooms: words that tell numbers under the names of axes."""

from betweenfaces.axes import is_axis_name
from betweenfaces.errors import InvalidText
from betweenfaces.words import numbers_in, words_of


def spans_told(text, most):
    """A dict from the names of the words NAME=NUMBER..NUMBER to the lists of their numbers, at most so many."""
    spans = {}
    words = [] if text == "" else words_of(text)
    for index, word in enumerate(words):
        name, _, behind = word.partition("=")
        numbers = numbers_in(behind, "..")
        if not is_axis_name(name) or name in spans or not 1 <= len(numbers) <= most:
            raise InvalidText(0, index)
        spans[name] = numbers
    return spans
