"""Right and left parts of plain motions: one for each divisor of the norm."""

from hingerows.divisions import right_divided
from hingerows.errors import InvalidDivisor, NotPart, NotPlain
from hingerows.euclid import common_right_part, lifted
from hingerows.motions import Motion, check_motion
from hingerows.polys import divided, is_poly, told
from hingerows.ratios import Ratio


def right_part(motion, poly):
    """The right part of the motion with this norm."""
    check_motion(motion)
    divisor = told_divisor(motion, poly)
    check_plain(motion)
    return part_with_norm(motion, divisor)


def left_part(motion, poly):
    """The left part of the motion with this norm."""
    check_motion(motion)
    divisor = told_divisor(motion, poly)
    check_plain(motion)
    return part_with_norm(motion.mirror(), divisor).mirror()


def is_right_part(motion, value):
    """Whether any value is a Motion that is a right part of this one."""
    check_motion(motion)
    check_plain(motion)
    return isinstance(value, Motion) and ends_with(motion, value)


def is_left_part(motion, value):
    """Whether any value is a Motion that is a left part of this one."""
    check_motion(motion)
    check_plain(motion)
    return isinstance(value, Motion) and ends_with(motion.mirror(), value.mirror())


def quotient(motion, part):
    """The Motion with which the part, multiplied from the left, is the motion."""
    check_motion(motion)
    check_motion(part)
    check_plain(motion)
    if part.degree >= motion.degree:
        raise NotPart()
    left, rest = right_divided(motion, part)
    if rest:
        raise NotPart()
    return Motion(left)


def told_divisor(motion, poly):
    """The told form of a divisor of the motion's norm."""
    if not is_poly(poly):
        raise InvalidDivisor(poly)
    numbers = told(poly)
    if len(numbers) < 3 or numbers[-1] != Ratio(1) or divided(motion.norm(), numbers)[1]:
        raise InvalidDivisor(poly)
    return numbers


def check_plain(motion):
    """Raise NotPlain unless the motion is plain."""
    if not motion.is_plain:
        raise NotPlain()


def part_with_norm(motion, divisor):
    """The right part of a plain motion with a told divisor as its norm."""
    return Motion(common_right_part(lifted(divisor), motion.eights()))


def ends_with(motion, other):
    """Whether the motion is a motion times the other one, or the other one itself."""
    # Divided without a rest, a motion leaves a motion: the second part of its norm, times the other norm, is nought.
    return not right_divided(motion, other)[1]
