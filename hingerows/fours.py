"""Fours a + b i + c j + d k, points, and sums and products of told numbers side by side."""

from hingerows.basics import is_list
from hingerows.errors import InvalidFour, InvalidPoint, NotUndone
from hingerows.ratios import Ratio, is_number, told_number


def is_four(value):
    """Whether any value is a FOUR."""
    return are_numbers(value, 4)


def is_point(value):
    """Whether any value is a POINT."""
    return are_numbers(value, 3)


def times_fours(four, other):
    """The product of two FOURS, told."""
    return four_product(told_four(four), told_four(other))


def norm_four(four):
    """The norm of a FOUR, the sum of its squares."""
    numbers = told_four(four)
    return sum_of_products(numbers, numbers)


def undone_four(four):
    """The told four whose product with this one is 1, from either side."""
    numbers = told_four(four)
    if is_nought(numbers):
        raise NotUndone()
    norm = sum_of_products(numbers, numbers)
    return scaled_numbers(four_mirror(numbers), Ratio(1).over(norm))


def are_numbers(value, many):
    """Whether any value is a list of so many NUMBERS."""
    return is_list(value) and len(value) == many and all([is_number(number) for number in value])


def told_four(four):
    """The tuple of the four Ratios of a FOUR."""
    if not is_four(four):
        raise InvalidFour(four)
    return tuple([told_number(number) for number in four])


def told_point(point):
    """The tuple of the three Ratios of a POINT."""
    if not is_point(point):
        raise InvalidPoint(point)
    return tuple([told_number(number) for number in point])


def four_product(one, other):
    """The product of two told fours."""
    a, b, c, d = one
    p, q, r, s = other
    return (
        a * p - b * q - c * r - d * s,
        a * q + b * p + c * s - d * r,
        a * r - b * s + c * p + d * q,
        a * s + b * r - c * q + d * p,
    )


def four_mirror(four):
    """The conjugate of a told four."""
    a, b, c, d = four
    return (a, -b, -c, -d)


def is_nought(numbers):
    """Whether all of the Ratios are 0."""
    return all([number.sign == 0 for number in numbers])


def added(numbers, others):
    """The sums of the Ratios at each place."""
    return tuple([number + other for number, other in zip(numbers, others)])


def scaled_numbers(numbers, scale):
    """Each of the Ratios times the same one."""
    return tuple([number * scale for number in numbers])


def sum_of_products(numbers, others):
    """The sum of the products of the Ratios at each place."""
    return Ratio.total([number * other for number, other in zip(numbers, others)])


def crossed(point, other):
    """The told point point x other, whose first number is p2 u3 - p3 u2, and so on round."""
    a, b, c = point
    p, q, r = other
    return (b * r - c * q, c * p - a * r, a * q - b * p)
