"""Exact numbers: the class Ratio, and what counts as a NUMBER [11]."""
from math import gcd

from tracewords.basics import is_integer, is_list
from tracewords.errors import DividedByZero, InvalidNumber


class Ratio:
    """A fraction of INTEGERS in lowest terms, its bottom at least 1."""

    def __init__(self, top, bottom=1):
        if not is_integer(top):
            raise InvalidNumber(top)
        if not is_integer(bottom) or bottom == 0:
            raise InvalidNumber(bottom)
        common = gcd(top, bottom)
        if bottom < 0:
            common = -common
        self._top = top // common
        self._bottom = bottom // common

    @property
    def top(self):
        """The INTEGER above the stroke."""
        return self._top

    @property
    def bottom(self):
        """The INTEGER below the stroke."""
        return self._bottom

    @property
    def sign(self):
        """-1, 0 or 1."""
        if self._top == 0:
            return 0
        return 1 if self._top > 0 else -1

    @property
    def is_whole(self):
        """Whether the bottom is 1."""
        return self._bottom == 1

    def __add__(self, other):
        right = ratio_of(other)
        return Ratio(self._top * right.bottom + right.top * self._bottom, self._bottom * right.bottom)

    def __radd__(self, other):
        return ratio_of(other) + self

    def __sub__(self, other):
        return self + -ratio_of(other)

    def __rsub__(self, other):
        return ratio_of(other) - self

    def __mul__(self, other):
        right = ratio_of(other)
        return Ratio(self._top * right.top, self._bottom * right.bottom)

    def __rmul__(self, other):
        return ratio_of(other) * self

    def __neg__(self):
        return Ratio(-self._top, self._bottom)

    def over(self, other):
        """This number, divided by the other one."""
        right = ratio_of(other)
        if right.sign == 0:
            raise DividedByZero()
        return Ratio(self._top * right.bottom, self._bottom * right.top)

    def size(self):
        """This number without its sign."""
        return Ratio(abs(self._top), self._bottom)

    def is_below(self, other):
        """Whether this number is less than the other one."""
        right = ratio_of(other)
        return self._top * right.bottom < right.top * self._bottom

    def is_at_most(self, other):
        """Whether this number is not greater than the other one."""
        right = ratio_of(other)
        return self._top * right.bottom <= right.top * self._bottom

    def __eq__(self, other):
        return isinstance(other, Ratio) and self._top == other._top and self._bottom == other._bottom

    @classmethod
    def total(cls, numbers):
        """The sum of a list of NUMBERS."""
        if not is_list(numbers):
            raise InvalidNumber(numbers)
        found = cls(0)
        for number in numbers:
            found = found + number
        return found

    def __str__(self):
        if self._bottom == 1:
            return str(self._top)
        return f"{self._top}/{self._bottom}"

    def __repr__(self):
        return f"Ratio({self._top}, {self._bottom})"


def is_number(value):
    """Whether any value is a NUMBER."""
    return is_integer(value) or isinstance(value, Ratio)


def are_numbers(value):
    """Whether any value is a list of NUMBERS."""
    return is_list(value) and all([is_number(one) for one in value])


def ratio_of(number):
    """The NUMBER as a Ratio; raises InvalidNumber unless it is one."""
    return number if isinstance(number, Ratio) else Ratio(number)


def ratio_row(numbers):
    """The NUMBERS of a list as a new list of Ratios."""
    return [ratio_of(number) for number in numbers]
