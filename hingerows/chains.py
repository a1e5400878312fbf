"""Rows that close to chains, and numbers at which others do not."""

from hingerows.errors import NotClosed, SharedEnd
from hingerows.motions import row_motion
from hingerows.ratios import Ratio, is_number
from hingerows.rows import rows


def closes(row, other):
    """Whether the motions of the two rows are equal."""
    return row_motion(row) == row_motion(other)


def opens_at(row, other):
    """A number at which the motions of the two rows have unlike worths, None if they close."""
    motion, beside = row_motion(row), row_motion(other)
    # Their difference is a polynomial of degree 6 at most, so it is nought if it is nought at seven numbers.
    for place in range(7):
        if motion.worth(place) != beside.worth(place):
            return Ratio(place)
    return None


def is_opening(row, other, value):
    """Whether any value is a NUMBER that opens the two rows."""
    motion, beside = row_motion(row), row_motion(other)
    return is_number(value) and motion.worth(value) != beside.worth(value)


def chain(row, other):
    """The hinges of the one row, then those of the other one from its last to its first."""
    if not closes(row, other):
        raise NotClosed()
    if share_an_end(row, other):
        raise SharedEnd()
    return [*row, *list(other)[::-1]]


def chains(motion):
    """The list of all pairs of rows of the motion that have a chain."""
    found = rows(motion)
    pairs = []
    for place, row in enumerate(found):
        for other in found[place + 1:]:
            if not share_an_end(row, other):
                pairs.append((list(row), list(other)))
    return pairs


def share_an_end(row, other):
    """Whether the rows have equal first hinges, or equal last ones."""
    return row[0] == other[0] or row[-1] == other[-1]
