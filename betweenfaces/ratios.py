"""Exact numbers: the class Ratio, and what is asked of several numbers at once."""

from math import gcd, lcm

from betweenfaces.errors import InvalidRatio, NoQuotient

DIGITS = "0123456789"
MOST_DIGITS = 60


class Ratio:
    """The fraction top over bottom, in lowest terms, with a positive bottom."""

    def __init__(self, top, bottom=1):
        # Numbers are made often: these are the words of is_integer, without its calls.
        if not isinstance(top, int) or not isinstance(bottom, int) or bottom == 0:
            raise InvalidRatio()
        if isinstance(top, bool) or isinstance(bottom, bool):
            raise InvalidRatio()
        shared = gcd(top, bottom)
        if bottom < 0:
            shared = -shared
        self.top = top // shared
        self.bottom = bottom // shared

    @classmethod
    def of(cls, number):
        """The Ratio of an integer or of a Ratio."""
        if isinstance(number, Ratio):
            return number
        return Ratio(number)

    @classmethod
    def read(cls, text):
        """The Ratio that str writes just so."""
        if not isinstance(text, str):
            raise InvalidRatio()
        head, slash, tail = text.partition("/")
        bottom = tail if slash else "1"
        if not _are_digits(head.removeprefix("-")) or not _are_digits(bottom):
            raise InvalidRatio()
        ratio = Ratio(int(head), int(bottom))
        if str(ratio) != text:
            raise InvalidRatio()
        return ratio

    def __add__(self, other):
        return Ratio(self.top * other.bottom + other.top * self.bottom, self.bottom * other.bottom)

    def __sub__(self, other):
        return Ratio(self.top * other.bottom - other.top * self.bottom, self.bottom * other.bottom)

    def __mul__(self, other):
        return Ratio(self.top * other.top, self.bottom * other.bottom)

    def __neg__(self):
        return Ratio(-self.top, self.bottom)

    def __eq__(self, other):
        return isinstance(other, Ratio) and self.top == other.top and self.bottom == other.bottom

    def __bool__(self):
        return bool(self.top)

    def __str__(self):
        if self.bottom == 1:
            return str(self.top)
        return f"{self.top}/{self.bottom}"

    def __repr__(self):
        return f"Ratio({self.top}, {self.bottom})"

    def under(self, other):
        """Whether this number is less than the other one."""
        return self.top * other.bottom < other.top * self.bottom

    def over(self, other):
        """The quotient."""
        if other.top == 0:
            raise NoQuotient()
        return Ratio(self.top * other.bottom, self.bottom * other.top)


def _are_digits(word):
    """Whether a word consists of one digit or more, and of no more than are read."""
    return 1 <= len(word) <= MOST_DIGITS and all([sign in DIGITS for sign in word])


def is_integer(value):
    """Whether any value is an integer; True and False are none."""
    return isinstance(value, int) and not isinstance(value, bool)


def is_number(value):
    """Whether any value is an integer or a Ratio."""
    return isinstance(value, Ratio) or is_integer(value)


def whole(numbers):
    """The numbers times their least common bottom, as a list of integers, and this bottom."""
    ratios = [Ratio.of(number) for number in numbers]
    bottom = 1
    for ratio in ratios:
        bottom = lcm(bottom, ratio.bottom)
    return [ratio.top * (bottom // ratio.bottom) for ratio in ratios], bottom


def ascending(numbers):
    """The ascending list of the Ratios of some numbers, without duplicates."""
    tops, bottom = whole(numbers)
    return [Ratio(top, bottom) for top in sorted(set(tops))]


def least(numbers):
    """The least of one number or more."""
    tops, bottom = whole(numbers)
    return Ratio(min(tops), bottom)


def greatest(numbers):
    """The greatest of one number or more."""
    tops, bottom = whole(numbers)
    return Ratio(max(tops), bottom)


def is_within(low, number, high):
    """Whether low <= number <= high, for Ratios."""
    return not number.under(low) and not high.under(number)


def put_into(low, number, high):
    """The number if low <= number <= high, otherwise the nearer one of low and high, for Ratios."""
    if number.under(low):
        return low
    return high if high.under(number) else number


def share(foot, at, top):
    """Which part of the way from foot to top leads from foot to at, for Ratios."""
    # One Ratio in place of three: tents are asked often.
    way = (at.top * foot.bottom - foot.top * at.bottom) * top.bottom
    whole_way = (top.top * foot.bottom - foot.top * top.bottom) * at.bottom
    return Ratio(way, whole_way)


def is_stretch(low, inside, high):
    """Whether any three values are numbers with low <= inside <= high and low < high."""
    if not all([is_number(value) for value in (low, inside, high)]):
        return False
    begin, end = Ratio.of(low), Ratio.of(high)
    return begin.under(end) and is_within(begin, Ratio.of(inside), end)
