"""The motion of degree 2 through three poses."""

from hingerows.basics import is_list
from hingerows.eights import Eight, check_pose
from hingerows.errors import InvalidPoses, NotApart
from hingerows.fours import sum_of_products
from hingerows.motions import Motion


def between(pose, other):
    """The between of two poses, 0 if a turn about one line or going alone leads the one to the other."""
    check_pose(pose)
    check_pose(other)
    return sum_of_products(pose.first(), other.second()) + sum_of_products(pose.second(), other.first())


def three_motion(poses):
    """The only Motion of degree 2 through three poses that are apart."""
    check_three_poses(poses)
    first, second, third = poses
    scales = [between(second, third), between(first, third), between(first, second)]
    if any([scale.sign == 0 for scale in scales]):
        raise NotApart()
    start, middle, end = [pose.times(scale) for pose, scale in zip(poses, scales)]
    back = end.undone()
    return Motion([start * back, (middle - start - end) * back, end * back])


def is_through(poses, value):
    """Whether any value is the Motion through the poses."""
    return three_motion(poses) == value


def check_three_poses(poses):
    """Raise InvalidPoses unless it is a list of three poses."""
    if not is_list(poses) or len(poses) != 3:
        raise InvalidPoses(None)
    for position, pose in enumerate(poses):
        if not isinstance(pose, Eight) or not pose.is_pose:
            raise InvalidPoses(position)
