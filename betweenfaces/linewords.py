"""The words of a line of a design's text, read one after the other."""

from betweenfaces.axes import is_axis_name
from betweenfaces.errors import InvalidText
from betweenfaces.letters import is_letter_name
from betweenfaces.words import numbers_in


class Line:
    """The words of the line of an index; the first one that cannot stand where it stands is told by InvalidText."""

    def __init__(self, index, words):
        self.index = index
        self.words = words
        self._at = 0

    def has_more(self):
        """Whether there is a word that is not read."""
        return self._at < len(self.words)

    def next_word(self):
        """The next word, which must be there."""
        self.check(self.has_more())
        return self.words[self._at]

    def check(self, is_right):
        """Raises an error about the next word unless it is right so far."""
        if not is_right:
            raise InvalidText(self.index, self._at)

    def go_on(self, is_right):
        """Goes behind the next word, which must be right."""
        self.check(is_right)
        self._at = self._at + 1

    def stop(self):
        """Looks whether there is no word left."""
        self.check(not self.has_more())

    def numbers(self, mark, many):
        """So many numbers, with a mark between them, which are the next word."""
        numbers = numbers_in(self.next_word(), mark)
        self.go_on(len(numbers) == many)
        return numbers

    def number(self):
        """The number that is the next word."""
        return self.numbers(",", 1)[0]

    def point(self):
        """The point that is the next word."""
        return tuple(self.numbers(",", 2))

    def points(self):
        """The list of the points that all words left are."""
        points = []
        while self.has_more():
            points.append(self.point())
        return points

    def letters(self, many):
        """So many letters, which are the next word."""
        word = self.next_word()
        self.go_on(len(word) == many and all([is_letter_name(sign) for sign in word]))
        return word

    def next_reach(self):
        """The reach that is the next word: a dict from names of axes to lists of three numbers."""
        reach = {}
        for piece in self.next_word().split("*"):
            name, _, behind = piece.partition(":")
            numbers = numbers_in(behind, "..")
            self.check(is_axis_name(name) and name not in reach and len(numbers) == 3)
            reach[name] = numbers
        self.go_on(True)
        return reach

    def touched(self):
        """The touched spots that all words left tell: a dict from their numbers to their moves."""
        moves = {}
        while self.has_more():
            index, _, behind = self.next_word().partition("=")
            numbers = numbers_in(behind, ",")
            spot = numbers_in(index, ",")
            is_spot = len(spot) == 1 and spot[0].bottom == 1 and spot[0].top >= 0
            self.go_on(is_spot and spot[0].top not in moves and len(numbers) == 2)
            moves[spot[0].top] = tuple(numbers)
        return moves
