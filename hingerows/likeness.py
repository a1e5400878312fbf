"""Motions that a pose leads to one another, and the eights that go along with a motion."""

from hingerows.eights import Eight
from hingerows.fours import is_nought
from hingerows.motions import check_motion
from hingerows.ratios import Ratio


def alike(motion, other):
    """A pose that leads the motion to the other one, None if there is none."""
    check_motion(motion)
    check_motion(other)
    if motion.degree != other.degree:
        return None
    for eight in leading_eights(motion.eights(), other.eights()):
        if not is_nought(eight.first()):
            return made_pose(eight)
    return None


def is_alike(motion, other, value):
    """Whether any value is a pose that leads the motion to the other one."""
    check_motion(motion)
    check_motion(other)
    if not isinstance(value, Eight) or not value.is_pose or motion.degree != other.degree:
        return False
    return all([value * one == two * value for one, two in zip(motion.eights(), other.eights())])


def frames(motion):
    """How many eights, free of one another, go along with the motion."""
    check_motion(motion)
    return len(leading_eights(motion.eights(), motion.eights()))


def leading_eights(ones, others):
    """Eights free of one another, whose sums are just those B with B c = d B for the eights c, d at each place."""
    basis = [unit_eight(place) for place in range(8)]
    for one, two in zip(ones, others):
        for place in range(8):
            lacking = [numbers_of(eight * one - two * eight)[place] for eight in basis]
            basis = narrowed(basis, lacking)
    return basis


def narrowed(basis, numbers):
    """Eights free of one another, whose sums are just those of the basis whose numbers, summed likewise, are 0."""
    unlike = [number.sign != 0 for number in numbers]
    if not any(unlike):
        return basis
    chosen = unlike.index(True)
    head, scale = basis[chosen], numbers[chosen]
    cleared = [eight - head.times(number.over(scale)) for eight, number in zip(basis, numbers)]
    return [*cleared[:chosen], *cleared[chosen + 1:]]


def made_pose(eight):
    """The pose that is an eight, its first part not nought, times 1 + e s with a number s."""
    straight, twice = eight.norm()
    return eight * Eight((1, 0, 0, 0), (twice.over(straight * -2), 0, 0, 0))


def unit_eight(place):
    """The Eight with 1 at this place of its eight numbers, 0 at the others."""
    numbers = [Ratio(int(at == place)) for at in range(8)]
    return Eight(numbers[:4], numbers[4:])


def numbers_of(eight):
    """The eight numbers of an Eight."""
    return [*eight.first(), *eight.second()]
