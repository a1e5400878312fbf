"""Polynomials of numbers, and the steps that polynomials of numbers and of eights share."""

from math import lcm

from hingerows.basics import is_list
from hingerows.errors import InvalidPoly, NoughtPoly, TooMany
from hingerows.ratios import Ratio, is_number, told_number


def is_poly(value):
    """Whether any value is a polynomial, a list of 0 to 25 NUMBERS."""
    return is_list(value) and len(value) <= 25 and all([is_number(number) for number in value])


def told(poly):
    """The list of its Ratios, without noughts at its end."""
    if not is_poly(poly):
        raise InvalidPoly(poly)
    return trimmed([told_number(number) for number in poly], Ratio(0))


def degree(poly):
    """The place of the last number that is not 0, -1 of nought."""
    return len(told(poly)) - 1


def plus(poly, other):
    """The sum, told."""
    ones, others = told(poly), told(other)
    length = max(len(ones), len(others))
    sums = [one + two for one, two in zip(padded(ones, length), padded(others, length))]
    return trimmed(sums, Ratio(0))


def minus(poly, other):
    """The difference, told."""
    ones, others = told(poly), told(other)
    return plus(ones, [-number for number in others])


def times(poly, other):
    """The product, told."""
    ones, others = told(poly), told(other)
    if not ones or not others:
        return []
    if len(ones) + len(others) - 2 > 24:
        raise TooMany("degree", 24)
    return products(ones, others, Ratio(0))


def scaled(poly, number):
    """The polynomial times a number, told."""
    numbers = told(poly)
    scale = told_number(number)
    return trimmed([scale * one for one in numbers], Ratio(0))


def derived(poly):
    """The polynomial derived, told."""
    return [number * place for place, number in enumerate(told(poly)) if place > 0]


def worth(poly, number):
    """The polynomial's worth at a number."""
    numbers = told(poly)
    return worth_at(numbers, told_number(number), Ratio(0))


def divided(poly, other):
    """The tuple of the quotient and the rest by the other one, told."""
    ones, others = told(poly), told(other)
    if not others:
        raise NoughtPoly()
    quotient, rest = parted(ones, with_head_one(others), Ratio(0))
    return ([number.over(others[-1]) for number in quotient], rest)


def common(poly, other):
    """The common part of both, told, with the head 1 unless both are nought."""
    ones, others = told(poly), told(other)
    while others:
        # A head of 1 at each step keeps the numbers of the rests from growing without need.
        divisor = with_head_one(others)
        others = parted(ones, divisor, Ratio(0))[1]
        ones = divisor
    return with_head_one(ones)


def with_head_one(numbers):
    """A told polynomial divided by its head; nought as it is."""
    return [number.over(numbers[-1]) for number in numbers]


def sorted_polys(polys):
    """The told polynomials by their degree, then by their numbers from the first one on."""
    scale = 1
    for poly in polys:
        for number in poly:
            scale = lcm(scale, number.bottom)
    return sorted(polys, key=lambda one: sort_key(one, scale))


def sort_key(poly, scale):
    """What stands in sequence as the told polynomial does; the scale is a multiple of all bottoms."""
    return (len(poly), [number.top * (scale // number.bottom) for number in poly])


def padded(numbers, length):
    """The Ratios with noughts behind them up to the length."""
    return [*numbers, *[Ratio(0) for _ in range(length - len(numbers))]]


# What follows is told of Ratios and of Eights alike: nought is the nought of their kind.


def trimmed(values, nought):
    """The list of the values without noughts at its end."""
    kept = list(values)
    while kept and kept[-1] == nought:
        kept.pop()
    return kept


def products(values, others, nought):
    """The product of two polynomials, the second of which is not empty."""
    sums = [nought for _ in range(len(values) + len(others) - 1)]
    for low, one in enumerate(values):
        for high, two in enumerate(others):
            sums[low + high] = sums[low + high] + one * two
    return sums


def parted(values, others, nought):
    """Quotient and rest: the values are the quotient times the others, whose head is 1, and the rest."""
    rest = list(values)
    quotient = [nought for _ in range(len(values) - len(others) + 1)]
    while len(rest) >= len(others):
        place = len(rest) - len(others)
        factor = rest.pop()
        quotient[place] = factor
        for step in range(len(others) - 1):
            rest[place + step] = rest[place + step] - factor * others[step]
    return quotient, trimmed(rest, nought)


def worth_at(values, place, nought):
    """The sum of the values, each times the power of the place at its right."""
    result = nought
    for value in reversed(list(values)):
        result = result * place + value
    return result
