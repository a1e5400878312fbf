"""Fractions in lowest terms, with which all is reckoned exactly."""

from math import gcd

from hingerows.basics import is_integer, is_list
from hingerows.errors import DividedByZero, InvalidNumber


class Ratio:
    """A fraction in lowest terms, its bottom at least 1."""

    def __init__(self, top, bottom=1):
        if not is_integer(top):
            raise InvalidNumber(top)
        if not is_integer(bottom) or bottom == 0:
            raise InvalidNumber(bottom)
        divisor = gcd(top, bottom)
        if bottom < 0:
            divisor = -divisor
        self._top = top // divisor
        self._bottom = bottom // divisor

    @property
    def top(self):
        """What stands above the stroke, with the sign."""
        return self._top

    @property
    def bottom(self):
        """What stands below the stroke, at least 1."""
        return self._bottom

    @property
    def sign(self):
        """-1 below 0, 1 above 0, and 0."""
        if self._top == 0:
            return 0
        return 1 if self._top > 0 else -1

    @property
    def is_whole(self):
        """Whether the bottom is 1."""
        return self._bottom == 1

    @classmethod
    def total(cls, numbers):
        """The sum of a list of NUMBERS, 0 of none."""
        if not is_list(numbers):
            raise InvalidNumber(numbers)
        result = cls(0)
        for number in numbers:
            result = result + number
        return result

    def over(self, other):
        """This number divided by the other one."""
        divisor = told_number(other)
        if divisor._top == 0:
            raise DividedByZero()
        return Ratio(self._top * divisor._bottom, self._bottom * divisor._top)

    def size(self):
        """This number without its sign."""
        return Ratio(abs(self._top), self._bottom)

    def is_below(self, other):
        """Whether this number is less than the other one."""
        return (self - other)._top < 0

    def is_at_most(self, other):
        """Whether this number is not greater than the other one."""
        return (self - other)._top <= 0

    def __add__(self, other):
        right = told_number(other)
        top = self._top * right._bottom + right._top * self._bottom
        return Ratio(top, self._bottom * right._bottom)

    def __radd__(self, other):
        return self + other

    def __sub__(self, other):
        return self + (-told_number(other))

    def __rsub__(self, other):
        return told_number(other) - self

    def __mul__(self, other):
        right = told_number(other)
        return Ratio(self._top * right._top, self._bottom * right._bottom)

    def __rmul__(self, other):
        return self * other

    def __neg__(self):
        return Ratio(-self._top, self._bottom)

    def __eq__(self, other):
        return isinstance(other, Ratio) and self._top == other._top and self._bottom == other._bottom

    def __str__(self):
        if self._bottom == 1:
            return str(self._top)
        return f"{self._top}/{self._bottom}"

    def __repr__(self):
        return f"Ratio({self._top}, {self._bottom})"


def is_number(value):
    """Whether any value is a NUMBER, an INTEGER or a Ratio."""
    return isinstance(value, Ratio) or is_integer(value)


def told_number(number):
    """The Ratio of a NUMBER."""
    if isinstance(number, Ratio):
        return number
    if is_integer(number):
        return Ratio(number)
    raise InvalidNumber(number)
