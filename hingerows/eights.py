"""Eights P + e D, where e goes along with all and e e is 0."""

from hingerows.errors import InvalidEight, InvalidHinge, InvalidPose, NotUndone
from hingerows.fours import (
    added, four_mirror, four_product, is_nought, scaled_numbers, sum_of_products, told_four, undone_four,
)
from hingerows.ratios import Ratio, told_number


class Eight:
    """A four P, the first part, and a second four D, the second part."""

    def __init__(self, first, second=(0, 0, 0, 0)):
        self._first = told_four(first)
        self._second = told_four(second)

    @property
    def is_pose(self):
        """Whether the first part is not nought and both parts are at right angles."""
        return not is_nought(self._first) and sum_of_products(self._first, self._second).sign == 0

    @property
    def is_hinge(self):
        """Whether it is r + u + e m, the vectors u, not nought, and m at right angles."""
        direction = self._first[1:]
        moment = self._second[1:]
        has_line = not is_nought(direction) and sum_of_products(direction, moment).sign == 0
        return has_line and self._second[0].sign == 0

    def first(self):
        """The first part, a told four."""
        return self._first

    def second(self):
        """The second part, a told four."""
        return self._second

    def mirror(self):
        """The conjugate."""
        return Eight(four_mirror(self._first), four_mirror(self._second))

    def undone(self):
        """The Eight whose product with this one is 1, from either side."""
        if is_nought(self._first):
            raise NotUndone()
        back = undone_four(self._first)
        twice = four_product(four_product(back, self._second), back)
        return Eight(back, scaled_numbers(twice, Ratio(-1)))

    def norm(self):
        """The two numbers of this Eight times its conjugate."""
        straight = sum_of_products(self._first, self._first)
        return (straight, sum_of_products(self._first, self._second) * 2)

    def times(self, number):
        """The Eight with each number times this one."""
        scale = told_number(number)
        return Eight(scaled_numbers(self._first, scale), scaled_numbers(self._second, scale))

    def __add__(self, other):
        check_eight(other)
        return Eight(added(self._first, other._first), added(self._second, other._second))

    def __sub__(self, other):
        check_eight(other)
        return self + (-other)

    def __mul__(self, other):
        check_eight(other)
        ahead = four_product(self._first, other._second)
        behind = four_product(self._second, other._first)
        return Eight(four_product(self._first, other._first), added(ahead, behind))

    def __neg__(self):
        return self.times(-1)

    def __eq__(self, other):
        return isinstance(other, Eight) and self._first == other._first and self._second == other._second

    def __repr__(self):
        return f"Eight({shown_four(self._first)}, {shown_four(self._second)})"


def shown_four(four):
    """A told four as a string, its numbers as `str` tells them."""
    inside = ", ".join([str(number) for number in four])
    return f"({inside})"


def number_eight(number):
    """The Eight of a NUMBER alone."""
    return Eight((number, 0, 0, 0))


def is_hinge_eight(value):
    """Whether any value is an Eight that is a hinge."""
    return isinstance(value, Eight) and value.is_hinge


def check_eight(eight):
    """Raise InvalidEight unless it is an Eight."""
    if not isinstance(eight, Eight):
        raise InvalidEight(eight)


def check_pose(pose):
    """Raise InvalidPose unless it is an Eight that is a pose."""
    if not isinstance(pose, Eight) or not pose.is_pose:
        raise InvalidPose(pose)


def check_hinge(hinge):
    """Raise InvalidHinge unless it is an Eight that is a hinge."""
    if not is_hinge_eight(hinge):
        raise InvalidHinge(hinge)
