"""Lines by direction and moment, and how two of them lie."""

from hingerows.eights import Eight, check_hinge, check_pose
from hingerows.errors import InvalidLine, InvalidScale, SamePoint
from hingerows.fours import added, crossed, is_nought, is_point, scaled_numbers, sum_of_products, told_point
from hingerows.poses import led
from hingerows.ratios import Ratio, is_number, told_number


def is_line(value):
    """Whether any value is a LINE, a tuple of a direction and a moment."""
    if not isinstance(value, tuple) or len(value) != 2:
        return False
    if not is_point(value[0]) or not is_point(value[1]):
        return False
    direction = told_point(value[0])
    return not is_nought(direction) and sum_of_products(direction, told_point(value[1])).sign == 0


def told_line(line):
    """The line with 1 as the first number of the direction that is not 0."""
    if not is_line(line):
        raise InvalidLine(line)
    direction, moment = told_point(line[0]), told_point(line[1])
    heads = [number for number in direction if number.sign != 0]
    scale = Ratio(1).over(heads[0])
    return (scaled_numbers(direction, scale), scaled_numbers(moment, scale))


def line_through(point, other):
    """The told line through two points."""
    start, end = told_point(point), told_point(other)
    if start == end:
        raise SamePoint()
    direction = difference(end, start)
    return told_line((direction, crossed(start, direction)))


def is_on(line, point):
    """Whether the point lies on the line."""
    direction, moment = told_line(line)
    return crossed(told_point(point), direction) == moment


def line_of(hinge):
    """The told line about which the hinge turns."""
    check_hinge(hinge)
    return told_line((hinge.first()[1:], hinge.second()[1:]))


def hinge_by(line, number, scale):
    """The hinge with this line and number, its vectors the told line's times the scale."""
    direction, moment = told_line(line)
    alone = told_number(number)
    if not is_number(scale) or told_number(scale).sign == 0:
        raise InvalidScale(scale)
    return Eight((alone, *scaled_numbers(direction, scale)), (0, *scaled_numbers(moment, scale)))


def led_line(pose, line):
    """The told line of the points to which the pose leads those of the line."""
    check_pose(pose)
    direction, moment = told_line(line)
    foot = foot_of((direction, moment))
    return line_through(led(pose, foot), led(pose, added(foot, direction)))


def far(line, other):
    """The square of the distance of the lines' nearest points."""
    direction, moment = told_line(line)
    beside, turning = told_line(other)
    if direction == beside:
        return square(difference(moment, turning)).over(square(direction))
    mixed = sum_of_products(direction, turning) + sum_of_products(beside, moment)
    return (mixed * mixed).over(square(crossed(direction, beside)))


def sine(line, other):
    """The square of the sine of the angle of the lines' directions."""
    direction, beside = told_line(line)[0], told_line(other)[0]
    return square(crossed(direction, beside)).over(square(direction) * square(beside))


def kind(line, other):
    """How the lines lie: "one", "parallel", "meet" or "apart"."""
    one, two = told_line(line), told_line(other)
    if one == two:
        return "one"
    if one[0] == two[0]:
        return "parallel"
    return "meet" if far(one, two).sign == 0 else "apart"


def foot_of(line):
    """The told point of a told line that is nearest to (0, 0, 0)."""
    direction, moment = line
    return scaled_numbers(crossed(direction, moment), Ratio(1).over(square(direction)))


def difference(point, other):
    """The told point from the other one to this one."""
    return added(point, scaled_numbers(other, Ratio(-1)))


def square(point):
    """The sum of the squares of a told point's numbers."""
    return sum_of_products(point, point)
