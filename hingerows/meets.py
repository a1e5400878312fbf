"""What right parts of plain motions have in common."""

from hingerows.euclid import common_right_part, first_part, lessened, second_part
from hingerows.motions import Motion, check_motion
from hingerows.parts import check_plain, ends_with, part_with_norm, told_divisor
from hingerows.polys import common, divided, times
from hingerows.sequences import divisors


def within(motion, other):
    """Whether the motion is a right part of the other one."""
    check_motion(motion)
    check_motion(other)
    check_plain(motion)
    check_plain(other)
    return ends_with(other, motion)


def common_right(motion, other):
    """The greatest common right part of both, None if there is none."""
    check_motion(motion)
    check_motion(other)
    check_plain(motion)
    check_plain(other)
    bound = common(motion.norm(), other.norm())
    while len(bound) > 1:
        ones, others = part_with_norm(motion, bound), part_with_norm(other, bound)
        if ones == others:
            return ones
        bound = lesser_bound(ones, others)
    return None


def right_parts(motion):
    """The list of the right parts of all divisors of the norm, these sorted."""
    check_motion(motion)
    check_plain(motion)
    return [part_with_norm(motion, divisor) for divisor in divisors(motion.norm()) if len(divisor) > 1]


def least_over(motion, poly, other):
    """The right part whose norm is the least common multiple of two divisors of the norm."""
    check_motion(motion)
    one, two = told_divisor(motion, poly), told_divisor(motion, other)
    check_plain(motion)
    return part_with_norm(motion, times(one, divided(two, common(one, two))[0]))


def lesser_bound(ones, others):
    """A polynomial that the norm of each common right part of two unlike plain motions with the same norm divides.

    With S + e T such a part, S divides both first parts from the right, so their difference, too. If the first parts
    are the same, U S, both second parts are U T but for multiples of S, so S divides their difference.
    """
    difference = lessened(ones.eights(), others.eights())
    apart = first_part(difference) or second_part(difference)
    shared = common_right_part(first_part(ones.eights()), apart)
    # The difference has a lesser degree than both, so what it has in common with them has one, too.
    return Motion(shared).norm() if len(shared) > 1 else [1]
