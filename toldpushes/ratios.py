"""Fractions in lowest terms, and what passes for a NUMBER."""

from math import gcd

from toldpushes.basics import is_integer, is_list
from toldpushes.errors import DividedByZero, InvalidNumber


def is_number(value):
    """Whether any value is a NUMBER."""
    return is_integer(value) or isinstance(value, Ratio)


def as_ratio(number):
    """The Ratio that is worth as much as a NUMBER: InvalidNumber(number) unless it is one."""
    if isinstance(number, Ratio):
        return number
    return Ratio(number)


def are_numbers(value):
    """Whether any value is a list of NUMBERS."""
    return is_list(value) and all([is_number(number) for number in value])


class Ratio:
    """A fraction of INTEGERS in lowest terms, its bottom at least 1; it never changes."""

    def __init__(self, top, bottom=1):
        for value in (top, bottom):
            if not is_integer(value):
                raise InvalidNumber(value)
        if bottom == 0:
            raise InvalidNumber(bottom)
        common = gcd(top, bottom) if bottom > 0 else -gcd(top, bottom)
        self._top = top // common
        self._bottom = bottom // common

    @property
    def top(self):
        """The INTEGER above the stroke."""
        return self._top

    @property
    def bottom(self):
        """The INTEGER below the stroke."""
        return self._bottom

    @property
    def sign(self):
        """-1 below 0, 0 at it, 1 above it."""
        if self._top == 0:
            return 0
        return 1 if self._top > 0 else -1

    @property
    def is_whole(self):
        """Whether the bottom is 1."""
        return self._bottom == 1

    def __add__(self, other):
        right = as_ratio(other)
        top = self._top * right.bottom + right.top * self._bottom
        return Ratio(top, self._bottom * right.bottom)

    def __radd__(self, other):
        return as_ratio(other) + self

    def __sub__(self, other):
        right = as_ratio(other)
        top = self._top * right.bottom - right.top * self._bottom
        return Ratio(top, self._bottom * right.bottom)

    def __rsub__(self, other):
        return as_ratio(other) - self

    def __mul__(self, other):
        right = as_ratio(other)
        return Ratio(self._top * right.top, self._bottom * right.bottom)

    def __rmul__(self, other):
        return as_ratio(other) * self

    def __neg__(self):
        return Ratio(-self._top, self._bottom)

    def over(self, other):
        """Divided by a NUMBER."""
        right = as_ratio(other)
        if right.sign == 0:
            raise DividedByZero()
        return Ratio(self._top * right.bottom, self._bottom * right.top)

    def size(self):
        """Without its sign."""
        return Ratio(abs(self._top), self._bottom)

    def is_below(self, other):
        """Whether it is less than a NUMBER."""
        return (self - other).sign < 0

    def is_at_most(self, other):
        """Whether it is not greater than a NUMBER."""
        return (self - other).sign <= 0

    def __eq__(self, other):
        return isinstance(other, Ratio) and self._top == other._top and self._bottom == other._bottom

    @classmethod
    def total(cls, numbers):
        """The sum of a list of NUMBERS, 0 of none."""
        if not is_list(numbers):
            raise InvalidNumber(numbers)
        found = cls(0)
        for number in numbers:
            found = found + number
        return found

    def __str__(self):
        if self._bottom == 1:
            return str(self._top)
        return f"{self._top}/{self._bottom}"

    def __repr__(self):
        return f"Ratio({self._top}, {self._bottom})"
