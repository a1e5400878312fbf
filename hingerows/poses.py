"""Poses: what they turn, how far they go, where they lead points."""

from hingerows.eights import Eight, check_pose
from hingerows.errors import NotUndone
from hingerows.fours import (
    added, four_mirror, four_product, is_nought, scaled_numbers, sum_of_products, told_four, told_point,
)
from hingerows.ratios import Ratio


def turn_pose(four):
    """The pose that turns alone, by a FOUR that is not nought."""
    first = told_four(four)
    if is_nought(first):
        raise NotUndone()
    return Eight(first)


def go_pose(point):
    """The pose that goes by the point alone."""
    half = scaled_numbers(told_point(point), Ratio(1, 2))
    return Eight((1, 0, 0, 0), (0, *half))


def led(pose, point):
    """The told point to which the pose leads the point."""
    check_pose(pose)
    place = told_point(point)
    return added(turned_point(pose, place), gone(pose))


def turned(pose):
    """The table by which the pose turns, a list of three tuples."""
    check_pose(pose)
    axes = [told_point(axis) for axis in ((1, 0, 0), (0, 1, 0), (0, 0, 1))]
    columns = [turned_point(pose, axis) for axis in axes]
    return [tuple([column[row] for column in columns]) for row in range(3)]


def gone(pose):
    """The told point to which the pose leads (0, 0, 0)."""
    check_pose(pose)
    first = pose.first()
    product = four_product(pose.second(), four_mirror(first))
    return scaled_numbers(product[1:], Ratio(2).over(sum_of_products(first, first)))


def same_pose(pose, other):
    """Whether the one pose is the other one times a number."""
    check_pose(pose)
    check_pose(other)
    place = [number.sign == 0 for number in pose.first()].index(False)
    # The numbers at this place tell the only factor that there can be. If the other one has 0 there, the left side
    # is nought and the right side is not: there is no factor.
    return pose.times(other.first()[place]) == other.times(pose.first()[place])


def turned_point(pose, point):
    """The told point turned by the pose, without going."""
    first = pose.first()
    product = four_product(four_product(first, (Ratio(0), *point)), four_mirror(first))
    return scaled_numbers(product[1:], Ratio(1).over(sum_of_products(first, first)))
