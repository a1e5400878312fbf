"""Motions told by other numbers, and seen from other places."""

from hingerows.basics import is_list
from hingerows.eights import check_pose, number_eight
from hingerows.errors import InvalidRow, InvalidTable
from hingerows.fours import are_numbers
from hingerows.motions import Motion, check_motion, is_row
from hingerows.polys import times
from hingerows.ratios import told_number


def changed(motion, table):
    """The Motion that stands at t, behind the head, where this one stands at (p t + q) / (r t + s)."""
    check_motion(motion)
    if not is_table(table):
        raise InvalidTable(table)
    (p, q), (r, s) = table
    overs, unders = powers([q, p], motion.degree), powers([s, r], motion.degree)
    sums = [number_eight(0) for _ in range(motion.degree + 1)]
    for eight, over, under in zip(motion.eights(), overs, unders[::-1]):
        for place, number in enumerate(times(over, under)):
            sums[place] = sums[place] + eight.times(number)
    back = sums[-1].undone()
    return Motion([eight * back for eight in sums])


def led_motion(motion, pose):
    """The motion led by the pose: the pose times it times the pose undone."""
    check_motion(motion)
    check_pose(pose)
    return Motion(led_eights(motion.eights(), pose))


def led_row(row, pose):
    """The list of the row's hinges led by the pose."""
    if not is_row(row):
        raise InvalidRow(row)
    check_pose(pose)
    return led_eights(row, pose)


def is_table(value):
    """Whether any value is a list of two lists of two NUMBERS each, p s - q r not 0."""
    if not is_list(value) or len(value) != 2 or not all([are_numbers(numbers, 2) for numbers in value]):
        return False
    (p, q), (r, s) = value
    return told_number(p) * s != told_number(q) * r


def powers(poly, highest):
    """The powers of the polynomial from 1 up to the highest."""
    found = [[1]]
    for _ in range(highest):
        found.append(times(found[-1], poly))
    return found


def led_eights(eights, pose):
    """The list of the eights led by the pose."""
    back = pose.undone()
    return [pose * eight * back for eight in eights]
