"""Neighbours in a row exchanged, and walks from row to row."""

from hingerows.basics import is_count, is_list
from hingerows.errors import InvalidPlace, InvalidRow
from hingerows.motions import hinge_motion, is_row, row_motion
from hingerows.parts import check_plain
from hingerows.rows import last_hinge


def exchanged(row, place):
    """The row exchanged at the place."""
    if not is_row(row):
        raise InvalidRow(row)
    if not is_place_in(row, place):
        raise InvalidPlace(place)
    one, other = row[place], row[place + 1]
    both = row_motion([one, other])
    check_plain(both)
    # If both have the same norm, this is the other one, the only one with this norm, and the row stays.
    last = last_hinge(both, hinge_norm(one))
    return [*row[:place], one + other - last, last, *row[place + 2:]]


def walk(row, other):
    """A walk from the row to the other one, None if there is none."""
    if not have_one_motion(row, other):
        return None
    norms, wanted = [hinge_norm(hinge) for hinge in row], [hinge_norm(hinge) for hinge in other]
    places = []
    for start, norm in enumerate(wanted):
        # The next hinge with the norm that is wanted here goes back to here, place by place.
        found = start + norms[start:].index(norm)
        places.extend(list(range(found - 1, start - 1, -1)))
        norms = [*norms[:start], norm, *norms[start:found], *norms[found + 1:]]
    return places


def is_walk(row, other, value):
    """Whether any value is a walk from the row to the other one."""
    same = have_one_motion(row, other)
    if not same or not is_list(value) or not all([is_place_in(row, place) for place in value]):
        return False
    # A plain motion has just one row for each sequence of norms, so these tell where a walk ends.
    norms = [hinge_norm(hinge) for hinge in row]
    for place in value:
        norms[place], norms[place + 1] = norms[place + 1], norms[place]
    return norms == [hinge_norm(hinge) for hinge in other]


def is_place_in(row, value):
    """Whether any value is a place at which the row can be exchanged."""
    return is_count(value) and value < len(row) - 1


def hinge_norm(hinge):
    """The norm of the hinge's motion, a quadratic."""
    return hinge_motion(hinge).norm()


def have_one_motion(row, other):
    """Whether both rows have the same motion, which has to be plain."""
    motion, moved = row_motion(row), row_motion(other)
    check_plain(motion)
    check_plain(moved)
    return motion == moved
