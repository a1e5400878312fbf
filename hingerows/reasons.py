"""Why a motion has no row: a part of its norm without quadratics."""

from hingerows.polys import divided, is_poly, told
from hingerows.ratios import Ratio
from hingerows.rows import norm_to_eight
from hingerows.wholes import bound_part, quadratics


def why_no_row(motion):
    """A reason why the motion has no row, None if it has one."""
    bound = bound_part(norm_to_eight(motion))
    return bound if len(bound) > 1 else None


def is_why_no_row(motion, value):
    """Whether any value is a reason why the motion has no row."""
    norm = norm_to_eight(motion)
    if not is_poly(value):
        return False
    numbers = told(value)
    if len(numbers) < 5 or numbers[-1] != Ratio(1) or divided(norm, numbers)[1]:
        return False
    # The norm has no real root, so no product of two polynomials of degree 1 divides it.
    return not quadratics(numbers)
