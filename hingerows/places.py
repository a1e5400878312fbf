"""Where a motion stands at a number, and where points are then."""

from hingerows.errors import NoPose
from hingerows.fours import is_nought, told_point
from hingerows.motions import check_motion
from hingerows.poses import led
from hingerows.ratios import Ratio, told_number


def pose_at(motion, number):
    """The pose at the number, with 1 as the first number of its first four that is not 0."""
    check_motion(motion)
    return pose_of(motion, told_number(number))


def spots_at(motion, point, number):
    """The told point to which the pose at the number leads the point."""
    check_motion(motion)
    place = told_point(point)
    return led(pose_of(motion, told_number(number)), place)


def pose_of(motion, number):
    """The pose of a motion at a told number."""
    worth = motion.worth(number)
    if is_nought(worth.first()):
        raise NoPose()
    heads = [part for part in worth.first() if part.sign != 0]
    return worth.times(Ratio(1).over(heads[0]))
