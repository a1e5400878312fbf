"""Euclid's way from the right, by the first parts of polynomials of eights."""

from hingerows.eights import Eight, number_eight
from hingerows.polys import parted, products, trimmed


def lifted(numbers):
    """The polynomial of eights of a polynomial of numbers."""
    return [number_eight(number) for number in numbers]


def first_part(eights):
    """The first fours of a polynomial of eights, as eights without a second part, without noughts at the end."""
    return trimmed([Eight(eight.first()) for eight in eights], number_eight(0))


def second_part(eights):
    """The second fours of a polynomial of eights, likewise."""
    return trimmed([Eight(eight.second()) for eight in eights], number_eight(0))


def joined(firsts, seconds):
    """The polynomial of eights with these first parts and, perhaps fewer, second parts."""
    nought = number_eight(0)
    filled = [*seconds, *[nought for _ in range(len(firsts) - len(seconds))]]
    return [Eight(one.first(), two.first()) for one, two in zip(firsts, filled)]


def common_right_part(ones, others):
    """A sum of both, each times some polynomial of eights from the left.

    Its first part is the greatest common right part of theirs, with head 1; its second part has a lesser degree.
    """
    nought = number_eight(0)
    while first_part(others):
        divisor = with_first_head_one(others)
        factor = parted(first_part(ones), first_part(divisor), nought)[0]
        ones, others = divisor, lessened(ones, products(factor, divisor, nought))
    firsts = first_part(ones)
    # What is taken off here is a multiple of the first part times e, so it is a multiple of the sum itself.
    return joined(firsts, parted(second_part(ones), firsts, nought)[1])


def with_first_head_one(eights):
    """The polynomial times a four from the left, so that the head of its first part is 1."""
    scale = first_part(eights)[-1].undone()
    return [scale * eight for eight in eights]


def lessened(ones, others):
    """The difference of two polynomials of eights, without noughts at its end."""
    nought = number_eight(0)
    length = max(len(ones), len(others))
    left = [*ones, *[nought for _ in range(length - len(ones))]]
    right = [*others, *[nought for _ in range(length - len(others))]]
    return trimmed([one - other for one, other in zip(left, right)], nought)
