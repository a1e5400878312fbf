"""The rows of a motion, one for each sequence of the quadratics of its norm."""

from hingerows.basics import is_list
from hingerows.divisions import rest_by
from hingerows.errors import InvalidSequence
from hingerows.motions import check_motion, hinge_motion, is_row, row_motion
from hingerows.parts import check_plain, quotient
from hingerows.polys import is_poly, times, told
from hingerows.ratios import Ratio
from hingerows.sequences import sequence_count, sequences
from hingerows.signs import told_within
from hingerows.wholes import is_whole


def row_by(motion, sequence):
    """The row of the motion with this sequence."""
    check_motion(motion)
    wanted = told_sequence(motion, sequence)
    check_plain(motion)
    return row_of(motion, wanted)


def a_row(motion):
    """A row of the motion, None if it has none."""
    found = sequences(norm_to_eight(motion))
    return row_of(motion, found[0]) if found else None


def rows(motion):
    """The list of all rows of the motion, by their sorted sequences."""
    return [row_of(motion, sequence) for sequence in sequences(norm_to_eight(motion))]


def row_count(motion):
    """How many rows the motion has."""
    return sequence_count(norm_to_eight(motion))


def is_row_of(motion, value):
    """Whether any value is a row of the motion."""
    check_motion(motion)
    return is_row(value) and len(value) == motion.degree and row_motion(value) == motion


def norm_to_eight(motion):
    """The norm of a plain motion, of degree 8 at most."""
    check_motion(motion)
    check_plain(motion)
    return told_within(motion.norm())


def told_sequence(motion, sequence):
    """The list of the told quadratics, each whole, whose product is the norm of the motion."""
    if not is_list(sequence) or len(sequence) != motion.degree:
        raise InvalidSequence(sequence)
    product, wanted = [1], []
    for poly in sequence:
        if not is_whole_quadratic(poly):
            raise InvalidSequence(sequence)
        wanted.append(told(poly))
        product = times(product, poly)
    if product != motion.norm():
        raise InvalidSequence(sequence)
    return wanted


def is_whole_quadratic(value):
    """Whether any value is a whole polynomial of degree 2 with head 1."""
    if not is_poly(value):
        return False
    numbers = told(value)
    return len(numbers) == 3 and numbers[-1] == Ratio(1) and is_whole(numbers)


def row_of(motion, sequence):
    """The row of a plain motion with a sequence of its norm, from the last hinge to the first one."""
    turned_row, rest = [], motion
    for quadratic in sequence[:0:-1]:
        hinge = last_hinge(rest, quadratic)
        turned_row.append(hinge)
        rest = quotient(rest, hinge_motion(hinge))
    turned_row.append(-rest.eights()[0])
    return turned_row[::-1]


def last_hinge(motion, quadratic):
    """The hinge whose motion is the right part of a plain motion with a quadratic as its norm."""
    alone, slope = rest_by(motion, quadratic)
    return -(slope.undone() * alone)
