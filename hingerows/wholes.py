"""The whole parts of polynomials over fractions: parts modulo a prime, lifted and put together (Zassenhaus)."""

from itertools import combinations
from math import lcm

from hingerows.lifting import lifted_parts
from hingerows.polys import divided, sorted_polys, times, with_head_one
from hingerows.ratios import Ratio
from hingerows.residues import Residues
from hingerows.signs import told_within, without_repeats
from hingerows.splitting import fitting_prime, prime_parts


def whole_parts(poly):
    """The sorted list of the tuples of a whole part and how often it stands."""
    numbers = told_within(poly)
    wholes = sorted_polys(single_parts(without_repeats(numbers)))
    return [(whole, often_in(numbers, whole)) for whole in wholes]


def is_whole(poly):
    """Whether the polynomial is whole."""
    return [often for _, often in whole_parts(poly)] == [1]


def quadratics(poly):
    """Those of the whole parts, with how often they stand, that have the degree 2."""
    return [(whole, often) for whole, often in whole_parts(poly) if len(whole) == 3]


def bound_part(poly):
    """The product of all whole parts that are no quadratics, each as often as it stands."""
    result = [Ratio(1)]
    for whole, often in whole_parts(poly):
        if len(whole) != 3:
            for _ in range(often):
                result = times(result, whole)
    return result


def often_in(numbers, whole):
    """How often the whole part stands in a polynomial that is not nought."""
    often = 0
    quotient, rest = divided(numbers, whole)
    while not rest:
        often = often + 1
        quotient, rest = divided(quotient, whole)
    return often


def single_parts(numbers):
    """The whole parts of a told square-free polynomial with head 1, in any sequence."""
    if len(numbers) == 1:
        return []
    cleared_numbers = without_bottoms(numbers)
    prime = fitting_prime(cleared_numbers)
    modulus = prime
    while modulus <= 2 * greatest_in_parts(cleared_numbers):
        modulus = modulus * modulus
    parts = prime_parts(made_headed(cleared_numbers, prime), prime)
    lifted = lifted_parts(made_headed(cleared_numbers, modulus), parts, prime, modulus)
    return put_together(numbers, cleared_numbers[-1], lifted, modulus)


def without_bottoms(numbers):
    """The INTEGERS of the polynomial times the least number that makes all of them whole."""
    scale = 1
    for number in numbers:
        scale = lcm(scale, number.bottom)
    return [number.top * (scale // number.bottom) for number in numbers]


def greatest_in_parts(numbers):
    """A bound of the INTEGERS in any part with the same head (Mignotte), whatever their sign."""
    bound = abs(numbers[-1]) * sum([abs(number) for number in numbers])
    for _ in range(len(numbers) - 1):
        bound = bound * 2
    return bound


def made_headed(numbers, modulus):
    """The polynomial of INTEGERS with head 1 modulo a number without a part in common with its head."""
    return Residues(modulus).with_head_one(Residues(modulus).reduced(numbers))


def put_together(numbers, head, lifted, modulus):
    """The whole parts, each the product of some of the lifted ones."""
    found = []
    rest, left = numbers, lifted
    while left:
        whole, left = least_whole(rest, head, left, modulus)
        found.append(whole)
        rest = divided(rest, whole)[0]
    return found


def least_whole(numbers, head, lifted, modulus):
    """A whole part that is made of the fewest lifted ones, and those lifted ones that it is not made of."""
    places = list(range(len(lifted)))
    for many in range(1, len(lifted) // 2 + 1):
        for chosen in combinations(places, many):
            part = candidate([lifted[place] for place in chosen], head, modulus)
            if not divided(numbers, part)[1]:
                return part, [lifted[place] for place in places if place not in chosen]
    return numbers, []


def candidate(chosen, head, modulus):
    """The only polynomial with head 1 over fractions that can be the product of the chosen ones."""
    ring = Residues(modulus)
    product = [head % modulus]
    for part in chosen:
        product = ring.times(product, part)
    # A part with the head of the whole polynomial has INTEGERS of either sign within half of the modulus.
    near = [number - modulus if 2 * number > modulus else number for number in product]
    return with_head_one([Ratio(number) for number in near])
