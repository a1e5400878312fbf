"""The parts of a polynomial modulo a prime (Berlekamp)."""

from hingerows.polys import trimmed
from hingerows.residues import Residues, undone_number, widened


def fitting_prime(numbers):
    """The least prime that does not divide the head, and modulo which the INTEGERS' polynomial is square-free."""
    prime = 2
    while not fits(numbers, prime):
        prime = next_prime(prime)
    return prime


def prime_parts(numbers, prime):
    """The whole parts, with head 1, modulo the prime, of a polynomial that is square-free there and has the head 1."""
    parts = [numbers]
    for fixed in fixed_polys(numbers, prime):
        parts = [piece for part in parts for piece in pieces(part, fixed, prime)]
    return parts


def fits(numbers, prime):
    """Whether the prime does not divide the head, and the polynomial is square-free modulo the prime."""
    if numbers[-1] % prime == 0:
        return False
    ring = Residues(prime)
    derived_numbers = [place * number for place, number in enumerate(numbers) if place > 0]
    return len(ring.common(ring.reduced(numbers), ring.reduced(derived_numbers))) == 1


def next_prime(prime):
    """The least prime that is greater."""
    number = prime + 1
    while any([number % divisor == 0 for divisor in range(2, number)]):
        number = number + 1
    return number


def pieces(part, fixed, prime):
    """The common parts of degree 1 and more of the part and the fixed polynomial less each number."""
    if len(part) == 2:
        return [part]
    ring = Residues(prime)
    found = [ring.common(part, ring.minus(fixed, [number])) for number in range(prime)]
    return [piece for piece in found if len(piece) > 1]


def fixed_polys(numbers, prime):
    """Polynomials of which all those are sums that leave the same rest as their power by the prime."""
    size = len(numbers) - 1
    ring = Residues(prime)
    step = power_rest(numbers, prime)
    table, power = [], [1]
    for place in range(size):
        row = widened(power, size)
        row[place] = row[place] - 1
        table.append([number % prime for number in row])
        power = ring.parted(ring.times(power, step), numbers)[1]
    return kernel(table, prime)


def power_rest(numbers, prime):
    """What the polynomial with head 1 leaves of t to the power of the prime."""
    ring = Residues(prime)
    power = [1]
    for _ in range(prime):
        power = ring.parted([0, *power], numbers)[1]
    return power


def kernel(table, prime):
    """Lists free of one another whose sums of products with each column of the square table leave 0."""
    size = len(table)
    # Behind each row stands of which rows it is made, so that what is nought ahead tells a list behind.
    rows = [[*row, *[int(at == place) for at in range(size)]] for place, row in enumerate(table)]
    for column in range(size):
        rows = cleared(rows, column, prime)
    return [trimmed(row[size:], 0) for row in rows]


def cleared(rows, column, prime):
    """The rows without the first that is not 0 in the column, a multiple of it taken off so that the others are 0."""
    filled = [row[column] != 0 for row in rows]
    if not any(filled):
        return rows
    chosen = filled.index(True)
    head = rows[chosen]
    scale = undone_number(head[column], prime)
    result = []
    for row in [*rows[:chosen], *rows[chosen + 1:]]:
        factor = row[column] * scale
        result.append([(number - factor * other) % prime for number, other in zip(row, head)])
    return result
