"""Written forms read again."""

from hingerows.eights import Eight
from hingerows.errors import HeadNotOne, InvalidEights, InvalidText, NotMotion
from hingerows.lines import is_line, told_line
from hingerows.motions import Motion
from hingerows.numerals import pair_in, ratio_in, ratios_in

# Python itself reads decimal digits up to 4,300 alone.
FIGURES_AT_MOST = 4000


def read(text):
    """The tuple of the sort and the value that has this written form."""
    if not isinstance(text, str):
        raise InvalidText(0)
    # Behind the last line feed stands nothing, or a line without one.
    *lines, behind = text.split("\n")
    if lines and lines[0] in ("row", "motion"):
        sort = lines[0]
        value = row_in(lines) if sort == "row" else motion_in(lines)
    else:
        sort, value = single_in(lines)
    if behind or value is None:
        raise InvalidText(len(lines) + 1)
    return (sort, value)


def single_in(lines):
    """The sort and the value of the only line."""
    if not lines:
        raise InvalidText(1)
    sort, blank, rest = lines[0].partition(" ")
    value = single_value(sort, rest) if blank else None
    if value is None:
        raise InvalidText(1)
    if len(lines) > 1:
        raise InvalidText(2)
    return sort, value


def single_value(sort, word):
    """The value of this sort that the word behind it tells, None if it tells none."""
    if sort == "number":
        return ratio_in(word, FIGURES_AT_MOST)
    if sort == "poly":
        return poly_in(word)
    if sort == "point":
        numbers = ratios_in(word, FIGURES_AT_MOST)
        return None if numbers is None or len(numbers) != 3 else tuple(numbers)
    if sort == "line":
        pair = pair_in(word, 3, FIGURES_AT_MOST)
        return pair if is_line(pair) and told_line(pair) == pair else None
    return eight_in(word) if sort == "eight" else None


def poly_in(word):
    """The told polynomial that the word is, None if it is none."""
    if word == "-":
        return []
    numbers = ratios_in(word, FIGURES_AT_MOST)
    if numbers is None or len(numbers) > 25 or numbers[-1].sign == 0:
        return None
    return numbers


def eight_in(word):
    """The Eight that the word is, None if it is none."""
    pair = pair_in(word, 4, FIGURES_AT_MOST)
    return None if pair is None else Eight(pair[0], pair[1])


def row_in(lines):
    """The row that the lines behind the first one tell, None if they lack."""
    hinges = eights_in(lines, "hinge", 6)
    return hinges if hinges else None


def motion_in(lines):
    """The Motion that the lines behind the first one tell, None if they make none."""
    eights = eights_in(lines, "part", 7)
    try:
        return Motion(eights)
    except (InvalidEights, HeadNotOne, NotMotion):
        return None


def eights_in(lines, head, most):
    """The list of the Eights that the lines behind the first one tell, each behind this word, so many at most."""
    eights = []
    for place, line in enumerate(lines):
        if place > 0:
            word, _, rest = line.partition(" ")
            eight = eight_in(rest)
            wrong = word != head or eight is None or (head == "hinge" and not eight.is_hinge)
            if wrong or place > most:
                raise InvalidText(place + 1)
            eights.append(eight)
    return eights
