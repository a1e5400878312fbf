"""The divisors of polynomials, and the sequences of their quadratics."""

from math import factorial

from hingerows.basics import is_list
from hingerows.polys import is_poly, sorted_polys, times, told
from hingerows.ratios import Ratio
from hingerows.signs import told_within
from hingerows.wholes import quadratics, whole_parts


def divisors(poly):
    """The sorted list of all divisors, told."""
    found = [[Ratio(1)]]
    for whole, often in whole_parts(poly):
        powers = [[Ratio(1)]]
        for _ in range(often):
            powers.append(times(powers[-1], whole))
        found = [times(one, power) for one in found for power in powers]
    return sorted_polys(found)


def sequence_count(poly):
    """How many sequences there are."""
    numbers = told_within(poly)
    if not falls_into_quadratics(numbers):
        return 0
    many = [often for _, often in quadratics(numbers)]
    result = factorial(sum(many))
    for often in many:
        result = result // factorial(often)
    return result


def sequences(poly):
    """The sorted list of all sequences, lists of told polynomials."""
    numbers = told_within(poly)
    if not falls_into_quadratics(numbers):
        return []
    return arrangements(quadratics(numbers))


def is_sequence(poly, value):
    """Whether any value is a sequence of the polynomial."""
    numbers = told_within(poly)
    if not is_list(value) or not all([is_poly(one) for one in value]):
        return False
    wanted = [whole for whole, often in quadratics(numbers) for _ in range(often)]
    return falls_into_quadratics(numbers) and sorted_polys([told(one) for one in value]) == wanted


def falls_into_quadratics(numbers):
    """Whether all whole parts of a polynomial are quadratics."""
    return all([len(whole) == 3 for whole, _ in whole_parts(numbers)])


def arrangements(parts):
    """The lists in which each of the sorted parts stands as often as it is told, sorted."""
    if not parts:
        return [[]]
    found = []
    for place, (whole, often) in enumerate(parts):
        lessened = [(whole, often - 1)] if often > 1 else []
        others = [*parts[:place], *lessened, *parts[place + 1:]]
        found.extend([[list(whole), *rest] for rest in arrangements(others)])
    return found
