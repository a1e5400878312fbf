"""Parts modulo a prime lifted to parts modulo a power of it (Hensel)."""

from hingerows.residues import Residues


def lifted_parts(numbers, parts, prime, modulus):
    """The parts, with head 1, whose product is the polynomial modulo the power, and which leave these by the prime.

    The polynomial has the head 1; modulus is the prime squared again and again.
    """
    if len(parts) == 1:
        return [numbers]
    ring = Residues(prime)
    others = [1]
    for part in parts[1:]:
        others = ring.times(others, part)
    left, right = lifted_pair(numbers, parts[0], others, prime, modulus)
    return [left, *lifted_parts(right, parts[1:], prime, modulus)]


def lifted_pair(numbers, left, right, prime, modulus):
    """Two parts lifted, step by step from each modulus to its square."""
    by_left, by_right = Residues(prime).bound(left, right)
    reached = prime
    while reached < modulus:
        reached = reached * reached
        ring = Residues(reached)
        lacking = ring.minus(numbers, ring.times(left, right))
        over, rest = ring.parted(ring.times(by_left, lacking), right)
        more = ring.plus(ring.times(by_right, lacking), ring.times(over, left))
        left, right = ring.plus(left, more), ring.plus(right, rest)
        by_left, by_right = lifted_factors(ring, left, right, by_left, by_right)
    return left, right


def lifted_factors(ring, left, right, by_left, by_right):
    """The two factors with which both parts have the sum 1, by those that had it ahead of the step."""
    sums = ring.plus(ring.times(by_left, left), ring.times(by_right, right))
    beyond = ring.minus(sums, [1])
    over, rest = ring.parted(ring.times(by_left, beyond), right)
    less = ring.plus(ring.times(by_right, beyond), ring.times(over, left))
    return ring.minus(by_left, rest), ring.minus(by_right, less)
