"""What the texts of all classes are made of: words, and numbers with marks between them."""

from betweenfaces.errors import InvalidRatio, InvalidText
from betweenfaces.ratios import Ratio


def words_of(text):
    """The words of any value that should be one line; those that are empty, too."""
    if not isinstance(text, str):
        raise InvalidText(0, 0)
    return text.split(" ")


def numbers_in(word, mark):
    """The numbers that a word consists of, with a mark between them; an empty list if it does not."""
    numbers = []
    for piece in word.split(mark):
        try:
            number = Ratio.read(piece)
        except InvalidRatio:
            return []
        numbers.append(number)
    return numbers
