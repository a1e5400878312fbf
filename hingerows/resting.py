"""Points that a motion leaves where they are."""

from hingerows.fours import added, crossed, is_nought, scaled_numbers, sum_of_products, told_point
from hingerows.lines import difference, foot_of, is_line, square, told_line
from hingerows.motions import check_motion


def rests(motion, point):
    """Whether the point rests."""
    check_motion(motion)
    place = told_point(point)
    for first, second in parts_of(motion):
        if second[0].sign != 0 or crossed(place, first[1:]) != second[1:]:
            return False
    return True


def resting(motion):
    """None if no point rests, else ("point", point), ("line", line) or ("all",)."""
    check_motion(motion)
    wanted = [(first[1:], second[1:]) for first, second in parts_of(motion)]
    turning = [pair for pair in wanted if not is_nought(pair[0])]
    if not turning:
        return ("all",) if rests(motion, (0, 0, 0)) else None
    if not all([is_line(pair) for pair in turning]):
        return None
    lines = [told_line(pair) for pair in turning]
    others = [line for line in lines if line != lines[0]]
    if not others:
        return ("line", lines[0]) if rests(motion, foot_of(lines[0])) else None
    if others[0][0] == lines[0][0]:
        return None
    point = nearest_to(lines[0], others[0])
    return ("point", point) if rests(motion, point) else None


def parts_of(motion):
    """The first and the second four of each coefficient."""
    return [(eight.first(), eight.second()) for eight in motion.eights()]


def nearest_to(line, other):
    """The point of the told line at which it meets the other one, not parallel to it, if they meet."""
    foot = foot_of(line)
    direction, turning = line[0], other[0]
    across = crossed(direction, turning)
    # With x = foot + s direction, x x turning is the other moment exactly if s across is what lacks here.
    lacking = difference(other[1], crossed(foot, turning))
    steps = sum_of_products(lacking, across).over(square(across))
    return added(foot, scaled_numbers(direction, steps))
