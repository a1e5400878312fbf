"""The written forms of values."""

from hingerows.eights import Eight
from hingerows.errors import InvalidSort, InvalidThing
from hingerows.fours import is_point, told_point
from hingerows.lines import is_line, told_line
from hingerows.motions import Motion, is_row
from hingerows.numerals import eight_text, numbers_text, pair_text
from hingerows.polys import is_poly, told
from hingerows.ratios import is_number, told_number

SORTS = ("number", "poly", "point", "line", "eight", "row", "motion")


def sorts():
    """The list of the words of the sorts."""
    return list(SORTS)


def is_of(sort, value):
    """Whether any value is one of this sort."""
    if not isinstance(sort, str) or sort not in SORTS:
        raise InvalidSort(sort)
    if sort == "number":
        return is_number(value)
    if sort == "poly":
        return is_poly(value)
    if sort == "point":
        return is_point(value)
    if sort == "line":
        return is_line(value)
    if sort == "row":
        return is_row(value)
    return isinstance(value, Eight) if sort == "eight" else isinstance(value, Motion)


def written(sort, value):
    """The written form of a value of this sort."""
    if not is_of(sort, value):
        raise InvalidThing(value)
    return "".join([f"{line}\n" for line in lines_of(sort, value)])


def lines_of(sort, value):
    """The lines of a value of this sort."""
    if sort == "row":
        return ["row", *[f"hinge {eight_text(hinge)}" for hinge in value]]
    if sort == "motion":
        return ["motion", *[f"part {eight_text(eight)}" for eight in value.eights()]]
    return [f"{sort} {single_text(sort, value)}"]


def single_text(sort, value):
    """What stands behind the sort of a value that has one line alone."""
    if sort == "number":
        return str(told_number(value))
    if sort == "poly":
        return numbers_text(told(value)) or "-"
    if sort == "point":
        return numbers_text(told_point(value))
    return pair_text(told_line(value)) if sort == "line" else eight_text(value)
