"""The sides of four hinges in a ring, and Bennett's rule."""

from hingerows.basics import is_list
from hingerows.eights import is_hinge_eight
from hingerows.errors import InvalidHinges
from hingerows.lines import far, line_of, sine


def sides(hinges):
    """The list of the four tuples (far, sine), round the four hinges."""
    check_four_hinges(hinges)
    lines = [line_of(hinge) for hinge in hinges]
    return [(far(one, two), sine(one, two)) for one, two in zip(lines, [*lines[1:], lines[0]])]


def is_bennett(hinges):
    """Whether the four hinges keep Bennett's rule."""
    first, second, third, fourth = sides(hinges)
    if any([number.sign == 0 for number in [*first, *second, *third, *fourth]]):
        return False
    return first == third and second == fourth and first[0] * second[1] == second[0] * first[1]


def check_four_hinges(hinges):
    """Raise InvalidHinges unless it is a list of four hinges."""
    if not is_list(hinges) or len(hinges) != 4:
        raise InvalidHinges(None)
    for position, hinge in enumerate(hinges):
        if not is_hinge_eight(hinge):
            raise InvalidHinges(position)
