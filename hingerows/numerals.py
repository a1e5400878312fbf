"""Numbers as they are written: INTEGERS without needless zeros, RATIOS in lowest terms, with commas between."""

from hingerows.ratios import Ratio

FIGURES = "0123456789"


def ratio_in(word, most):
    """The Ratio that the word is, with so many figures at most above and below the stroke; None if it is none."""
    top, stroke, bottom = word.partition("/")
    if not are_figures(top.removeprefix("-"), most):
        return None
    if not stroke:
        bottom = "1"
    if not are_figures(bottom, most) or bottom.startswith("0"):
        return None
    number = Ratio(int(top), int(bottom))
    # Each number is written in just one way, so that all else that was told here is needless or not in lowest terms.
    return number if str(number) == word else None


def ratios_in(word, most):
    """The list of the Ratios with commas between, None if it is none."""
    numbers = [ratio_in(part, most) for part in word.split(",")]
    return None if None in numbers else numbers


def pair_in(word, size, most):
    """The tuple of two tuples of so many Ratios each, with a semicolon between, None if it is none."""
    sides = [ratios_in(part, most) for part in word.split(";")]
    if None in sides or [len(side) for side in sides] != [size, size]:
        return None
    return (tuple(sides[0]), tuple(sides[1]))


def are_figures(word, most):
    """Whether the word is made of figures, one at least and so many at most."""
    return 1 <= len(word) <= most and all([sign in FIGURES for sign in word])


def numbers_text(numbers):
    """The Ratios as they are written."""
    return ",".join([str(number) for number in numbers])


def pair_text(pair):
    """The two lists of Ratios as they are written."""
    return ";".join([numbers_text(numbers) for numbers in pair])


def eight_text(eight):
    """The first and the second part of the Eight as they are written."""
    return pair_text((eight.first(), eight.second()))
