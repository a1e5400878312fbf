"""Paths of points: three tops over a bottom that divides the norm."""

from hingerows.eights import Eight, number_eight
from hingerows.fours import told_point
from hingerows.motions import check_motion
from hingerows.polys import common, divided, minus, products, scaled, told
from hingerows.signs import root_count


def path(motion, point):
    """The tuple of the three tops and the bottom, told."""
    check_motion(motion)
    place = told_point(point)
    polys = [*moved_numbers(motion, place), motion.norm()]
    shared = []
    for poly in polys:
        shared = common(shared, poly)
    return tuple([divided(poly, shared)[0] for poly in polys])


def path_degree(motion, point):
    """The degree of the path's bottom."""
    return len(path(motion, point)[3]) - 1


def fallen(motion, point):
    """The norm divided by the path's bottom."""
    bottom = path(motion, point)[3]
    return divided(motion.norm(), bottom)[0]


def is_on_path(motion, point, other):
    """Whether the other point is on the path of the point."""
    check_motion(motion)
    start, goal = told_point(point), told_point(other)
    if start == goal:
        return True
    *tops, bottom = path(motion, start)
    shared = []
    for top, number in zip(tops, goal):
        shared = common(shared, minus(top, scaled(bottom, number)))
    return root_count(shared) > 0


def moved_numbers(motion, point):
    """The three polynomials of numbers of P x P' + 2 D P', x the told point."""
    firsts = [Eight(eight.first()) for eight in motion.eights()]
    seconds = [Eight(eight.second()) for eight in motion.eights()]
    place = Eight((0, *point))
    ahead = [first * place + second.times(2) for first, second in zip(firsts, seconds)]
    moved = products(ahead, [first.mirror() for first in firsts], number_eight(0))
    return [told([eight.first()[axis] for eight in moved]) for axis in (1, 2, 3)]
