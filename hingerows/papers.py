"""The papers of claims: how each is made, and what counts as one."""

from hingerows.basics import is_list
from hingerows.chains import closes, is_opening, opens_at
from hingerows.divisions import right_divided
from hingerows.fours import told_point
from hingerows.likeness import alike, is_alike
from hingerows.motions import row_motion
from hingerows.places import spots_at
from hingerows.ratios import Ratio, is_number, told_number
from hingerows.reasons import is_why_no_row, why_no_row
from hingerows.resting import rests
from hingerows.rows import a_row, is_row_of

# Each function that makes a paper returns None if the claim is not true; each that tests one takes any value.


def row_paper(motion):
    """A row of the motion."""
    return a_row(motion)


def is_row_paper(motion, value):
    """Whether it is a row of the motion."""
    return is_row_of(motion, value)


def rowless_paper(motion):
    """A reason why the motion has no row."""
    return why_no_row(motion)


def is_rowless_paper(motion, value):
    """Whether it is such a reason."""
    return is_why_no_row(motion, value)


def closes_paper(row, other):
    """The Motion that both rows make."""
    return row_motion(row) if closes(row, other) else None


def is_closes_paper(row, other, value):
    """Whether it is this Motion."""
    return closes(row, other) and row_motion(row) == value


def opens_paper(row, other):
    """A number that opens the rows."""
    return opens_at(row, other)


def is_opens_paper(row, other, value):
    """Whether it is such a number."""
    return is_opening(row, other, value)


def ends_paper(motion, other):
    """The eights of the quotient, if there is no rest."""
    quotient, rest = right_divided(motion, other)
    return None if rest else quotient


def is_ends_paper(motion, other, value):
    """Whether these are the eights of the quotient, and there is no rest."""
    quotient, rest = right_divided(motion, other)
    return not rest and are_eights(value, quotient)


def lacks_paper(motion, other):
    """The quotient and the rest, if there is one."""
    quotient, rest = right_divided(motion, other)
    return (quotient, rest) if rest else None


def is_lacks_paper(motion, other, value):
    """Whether these are the quotient and the rest, and there is one."""
    quotient, rest = right_divided(motion, other)
    if not rest or not isinstance(value, tuple) or len(value) != 2:
        return False
    return are_eights(value[0], quotient) and are_eights(value[1], rest)


def rests_paper(motion, point):
    """Numbers at which the point stands where it is, as many as are enough."""
    return enough_numbers(motion) if rests(motion, point) else None


def is_rests_paper(motion, point, value):
    """Whether these are as many unlike numbers at which the point stands where it is."""
    if not is_list(value) or not all([is_number(number) for number in value]):
        return False
    numbers = [told_number(number) for number in value]
    if len(numbers) != 2 * motion.degree + 1 or repeats(numbers):
        return False
    here = told_point(point)
    return all([spots_at(motion, point, number) == here for number in numbers])


def moves_paper(motion, point):
    """Two numbers at which the point stands at unlike places."""
    start = spots_at(motion, point, 0)
    # If the spot is the same at all of these, it is the same at all numbers, and the point's own place.
    for number in enough_numbers(motion):
        if spots_at(motion, point, number) != start:
            return (Ratio(0), number)
    return None


def is_moves_paper(motion, point, value):
    """Whether these are two such numbers."""
    if not isinstance(value, tuple) or len(value) != 2 or not all([is_number(number) for number in value]):
        return False
    return spots_at(motion, point, value[0]) != spots_at(motion, point, value[1])


def alike_paper(motion, other):
    """A pose that leads the one to the other."""
    return alike(motion, other)


def is_alike_paper(motion, other, value):
    """Whether it is such a pose."""
    return is_alike(motion, other, value)


def unlike_paper(motion, other):
    """The empty tuple, if no pose leads the one to the other."""
    return () if alike(motion, other) is None else None


def is_unlike_paper(motion, other, value):
    """Whether it is the empty tuple, and there is no such pose."""
    return isinstance(value, tuple) and len(value) == 0 and alike(motion, other) is None


def four_paper(hinges):
    """The Motion that the first two hinges, and the last two turned about, both make."""
    return closes_paper(hinges[:2], hinges[:1:-1])


def is_four_paper(hinges, value):
    """Whether it is this Motion."""
    return is_closes_paper(hinges[:2], hinges[:1:-1], value)


def broken_paper(hinges):
    """A number that opens these two rows."""
    return opens_paper(hinges[:2], hinges[:1:-1])


def is_broken_paper(hinges, value):
    """Whether it is such a number."""
    return is_opens_paper(hinges[:2], hinges[:1:-1], value)


MAKERS = {
    "row": row_paper, "rowless": rowless_paper, "closes": closes_paper, "opens": opens_paper, "ends": ends_paper,
    "lacks": lacks_paper, "rests": rests_paper, "moves": moves_paper, "alike": alike_paper, "unlike": unlike_paper,
    "four": four_paper, "broken": broken_paper,
}
TESTS = {
    "row": is_row_paper, "rowless": is_rowless_paper, "closes": is_closes_paper, "opens": is_opens_paper,
    "ends": is_ends_paper, "lacks": is_lacks_paper, "rests": is_rests_paper, "moves": is_moves_paper,
    "alike": is_alike_paper, "unlike": is_unlike_paper, "four": is_four_paper, "broken": is_broken_paper,
}


def made_paper(word, parts):
    """A paper of the claim with this word and these parts, None if it is not true."""
    make = MAKERS[word]
    return make(*parts)


def is_made_paper(word, parts, value):
    """Whether any value is a paper of this claim."""
    test = TESTS[word]
    return test(*parts, value)


def enough_numbers(motion):
    """Unlike numbers, so many that a point that stands at one place at all of them stands there at each number."""
    return [Ratio(number) for number in range(2 * motion.degree + 1)]


def repeats(numbers):
    """Whether a number stands in the list twice."""
    return any([number in numbers[:place] for place, number in enumerate(numbers)])


def are_eights(value, eights):
    """Whether any value is a list of just these Eights."""
    return is_list(value) and list(value) == eights
