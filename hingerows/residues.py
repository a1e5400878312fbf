"""Polynomials of INTEGERS modulo a number: lists of 0 up to the number, without noughts at their end."""

from hingerows.polys import trimmed


class Residues:
    """The polynomials modulo one number. Where one is divided by another one, the other one has the head 1."""

    def __init__(self, modulus):
        self.modulus = modulus

    def reduced(self, numbers):
        """What the modulus leaves of each of the INTEGERS."""
        return trimmed([number % self.modulus for number in numbers], 0)

    def plus(self, ones, others):
        """The sum."""
        length = max(len(ones), len(others))
        return self.reduced([one + other for one, other in zip(widened(ones, length), widened(others, length))])

    def minus(self, ones, others):
        """The difference."""
        return self.plus(ones, [-number for number in others])

    def times(self, ones, others):
        """The product."""
        sums = [0 for _ in range(len(ones) + len(others))]
        for low, one in enumerate(ones):
            for high, other in enumerate(others):
                sums[low + high] = sums[low + high] + one * other
        return self.reduced(sums)

    def parted(self, ones, others):
        """Quotient and rest."""
        rest = list(ones)
        turned_quotient = []
        while len(rest) >= len(others):
            factor = rest.pop() % self.modulus
            turned_quotient.append(factor)
            start = len(rest) - len(others) + 1
            for step in range(len(others) - 1):
                rest[start + step] = (rest[start + step] - factor * others[step]) % self.modulus
        return self.reduced(turned_quotient[::-1]), self.reduced(rest)

    def with_head_one(self, numbers):
        """The polynomial, not nought, divided by its head, which has no part in common with the modulus."""
        scale = undone_number(numbers[-1], self.modulus)
        return self.reduced([scale * number for number in numbers])

    def common(self, ones, others):
        """The common part, with head 1, of two that are not both nought, where the modulus is a prime."""
        while others:
            divisor = self.with_head_one(others)
            ones, others = divisor, self.parted(ones, divisor)[1]
        return self.with_head_one(ones)

    def bound(self, ones, others):
        """Two polynomials that, times the first and the second of these without a common part, have the sum 1.

        The second of these has the head 1; the modulus is a prime.
        """
        old, new = ones, others
        back, ahead = [1], []
        while new:
            scale = undone_number(new[-1], self.modulus)
            new, ahead = self.times(new, [scale]), self.times(ahead, [scale])
            quotient, rest = self.parted(old, new)
            old, new = new, rest
            back, ahead = ahead, self.minus(back, self.times(quotient, ahead))
        left = self.parted(back, others)[1]
        lacking = self.minus([1], self.times(left, ones))
        return left, self.parted(lacking, others)[0]


def widened(numbers, length):
    """The INTEGERS with noughts behind them up to the length."""
    return [*numbers, *[0 for _ in range(length - len(numbers))]]


def undone_number(number, modulus):
    """The number whose product with this one leaves 1; it has no part in common with the modulus."""
    old, new = modulus, number % modulus
    back, ahead = 0, 1
    while new:
        factor = old // new
        old, new = new, old - factor * new
        back, ahead = ahead, back - factor * ahead
    return back % modulus
