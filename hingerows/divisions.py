"""Motions divided from either side, and what they leave."""

from hingerows.eights import check_eight, number_eight
from hingerows.errors import HeadNotOne, NoughtPoly
from hingerows.motions import check_motion
from hingerows.polys import parted, told, worth_at
from hingerows.ratios import Ratio


def right_divided(motion, other):
    """Quotient and rest: the motion is the quotient times the other one, and the rest."""
    check_motion(motion)
    check_motion(other)
    return parted(motion.eights(), other.eights(), number_eight(0))


def left_divided(motion, other):
    """Quotient and rest: the motion is the other one times the quotient, and the rest."""
    check_motion(motion)
    check_motion(other)
    # Conjugates turn products about, so that what stands at the left is divided at the right.
    quotient, rest = right_divided(motion.mirror(), other.mirror())
    return ([eight.mirror() for eight in quotient], [eight.mirror() for eight in rest])


def right_worth(motion, eight):
    """The sum of the motion's eights, each times the power of this eight at its right."""
    check_motion(motion)
    check_eight(eight)
    return worth_at(motion.eights(), eight, number_eight(0))


def rest_by(motion, poly):
    """What a polynomial of numbers with the head 1 leaves of the motion."""
    check_motion(motion)
    numbers = told(poly)
    if not numbers:
        raise NoughtPoly()
    if numbers[-1] != Ratio(1):
        raise HeadNotOne()
    lifted = [number_eight(number) for number in numbers]
    return parted(motion.eights(), lifted, number_eight(0))[1]
