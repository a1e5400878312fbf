"""How many real roots a polynomial has, and its square-free part."""

from hingerows.errors import NoughtPoly, TooMany
from hingerows.polys import common, derived, divided, told, with_head_one


def real_roots(poly):
    """How many unlike real numbers there are at which the polynomial is 0."""
    return root_count(told_within(poly))


def square_free(poly):
    """The polynomial with head 1 whose whole parts are those of this one, each standing once."""
    return without_repeats(told_within(poly))


def told_within(poly):
    """The told form of a polynomial that is not nought, of degree 8 at most."""
    numbers = told(poly)
    if not numbers:
        raise NoughtPoly()
    if len(numbers) > 9:
        raise TooMany("degree", 8)
    return numbers


def root_count(numbers):
    """How many unlike real roots a told polynomial of any degree has that is not nought (Sturm)."""
    polys = contrary_rests(numbers)
    above = [poly[-1].sign for poly in polys]
    # Far below, a polynomial of odd degree, of even length, has the sign that is contrary to its head's.
    below = [sign if len(poly) & 1 else -sign for sign, poly in zip(above, polys)]
    return sign_changes(below) - sign_changes(above)


def contrary_rests(numbers):
    """The polynomial, what it is derived to, and the contrary rests behind, up to the last that is not nought."""
    polys, following = [numbers], derived(numbers)
    while following:
        rest = divided(polys[-1], following)[1]
        polys.append(following)
        following = with_small_head([-number for number in rest])
    return polys


def with_small_head(numbers):
    """The told polynomial divided by its head without the sign, so that its numbers do not grow without need."""
    return [number.over(numbers[-1].size()) for number in numbers]


def sign_changes(signs):
    """How often a sign is followed by the other one."""
    return len([sign for sign, following in zip(signs, signs[1:]) if sign != following])


def without_repeats(numbers):
    """The square-free part of a told polynomial that is not nought."""
    return with_head_one(divided(numbers, common(numbers, derived(numbers)))[0])
