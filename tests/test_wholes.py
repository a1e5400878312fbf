"""Whole polynomials, quadratics and the bound part (points 31, 34)."""

from fractions import Fraction
from itertools import product

from hingerows.polys import divided, scaled, told
from hingerows.ratios import Ratio
from hingerows.residues import Residues
from hingerows.splitting import prime_parts
from hingerows.wholes import bound_part, is_whole, quadratics, whole_parts
from tests.helpers import Case, as_ratios, fractions, made_of, refuses_polys, some_numbers

# Whole by a prime that divides all numbers but the head, and once the first one (Eisenstein), or as told.
EISENSTEIN = [
    [2, 1], [-2, 0, 1], [6, 6, 1], [3, 0, 3, 1], [10, 0, 0, 5, 1], [2, 2, 0, 0, 2, 1], [7, 0, 7, 0, 14, 0, 1],
    [3, 3, 3, 3, 3, 3, 3, 1], [2, 0, 0, 0, 0, 0, 0, 0, 1], [5, 10, 0, 0, -5, 0, 20, 35, 2], [6, 6, 0, 3],
]
# Whole over fractions, but of degree 2 at most modulo each prime: sums of square roots and roots of 1.
FALLING = [[1, 0, 0, 0, 1], [1, 0, -10, 0, 1], [576, 0, -960, 0, 352, 0, -40, 0, 1], [1, 0, -1, 0, 1]]
OTHER_WHOLES = [
    [0, 1], [Ratio(-7, 3), 5], [1, 0, 1], [1, 1, 1], [1, 1, 1, 1, 1], [1, 0, 0, 1, 0, 0, 1], [1, 1, 1, 1, 1, 1, 1],
    [1, -1, 0, 1, -1, 1, 0, -1, 1], [1, 0, 0, 0, 0, 0, 0, 0, 1], [Ratio(1, 7), 0, 2], [-1, -1, 0, 1],
]
# Polynomials with numbers between -1 and 1 that have a part with a number beyond.
SWELLING = [
    ([1, -1, -1, -1, -1, -1, -1, -1, 1], [1, 0, -2, -3, -2, 0, 1]),
    ([1, -1, -1, -1, -1, 0, 1, 1, 1], [-1, 0, 1, 2, 3, 3, 2, 1]),
    ([1, -1, 1, 0, -1, 1, -1, 1, 1], [1, -2, 3, -3, 2, -1, 0, 1]),
]


def wholes():
    return EISENSTEIN + FALLING + OTHER_WHOLES


def headed(poly):
    return scaled(poly, Ratio(1).over(told(poly)[-1]))


def ordered(polys):
    return sorted(polys, key=lambda poly: (len(poly), fractions(poly)))


def parts_by(*polys):
    """The sorted tuples of whole polynomials and how often they are told."""
    heads = [headed(poly) for poly in polys]
    single = [head for at, head in enumerate(heads) if head not in heads[:at]]
    return [(head, heads.count(head)) for head in ordered(single)]


def interpolated(points, worths):
    """The polynomial of least degree with these worths at these points, as Python's fractions."""
    result = [Fraction(0)] * len(points)
    for point, worth in zip(points, worths):
        factor = [Fraction(worth)]
        for other in points:
            if other != point:
                lower, upper = [0, *factor], [*factor, 0]
                factor = [(one - other * two) / (point - other) for one, two in zip(lower, upper)]
        result = [one + two for one, two in zip(result, factor)]
    return result


def splits(poly):
    """Whether a polynomial of INTEGERS is a product of two of lesser degree, by its worths' divisors (Kronecker)."""
    for size in range(1, (len(poly) - 1) // 2 + 1):
        points = [0, 1, -1, 2, -2][:size + 1]
        worths = [sum(number * point ** place for place, number in enumerate(poly)) for point in points]
        if 0 in worths:
            return True
        choices = [[one for one in range(-abs(worth), abs(worth) + 1) if one and worth % one == 0] for worth in worths]
        for chosen in product(*choices):
            part = [Ratio(one.numerator, one.denominator) for one in interpolated(points, chosen)]
            if len(told(part)) > 1 and not divided(poly, part)[1]:
                return True
    return False


class WholePartsTest(Case):
    def test_wholes_are_their_own_parts(self):
        for poly in wholes():
            self.assertEqual([(headed(poly), 1)], self.reckoned(whole_parts, poly=poly), poly)
            self.assertBool(True, self.reckoned(is_whole, poly=poly))
            self.assertBool(True, is_whole(scaled(poly, Ratio(-7, 3))))

    def test_products_of_two_and_more(self):
        pool = wholes()
        for at, one in enumerate(pool):
            for step in (0, 1, 3, 8, 13):
                other = pool[(at + step) % len(pool)]
                if len(one) + len(other) > 10:
                    continue
                self.assertEqual(parts_by(one, other), whole_parts(made_of(one, other, [Ratio(-2, 9)])))
                self.assertBool(False, is_whole(made_of(one, other)))
                third = pool[(at + 2 * step + 1) % len(pool)]
                if len(one) + len(other) + len(third) <= 11:
                    self.assertEqual(parts_by(one, other, third), self.asked(
                        whole_parts, poly=made_of(one, other, third)))

    def test_parts_that_stand_twice_and_more(self):
        for poly in ([0, 3], [2, 1], [1, 0, 1], [Ratio(1, 3), 0, 5], [1, 0, -10, 0, 1], [-1, -1, 0, 1]):
            most = 8 // (len(poly) - 1)
            for many in range(1, most + 1):
                self.assertEqual([(headed(poly), many)], whole_parts(made_of(*[poly] * many)))
        mixed = [[2, 1], [2, 1], [2, 1], [1, 0, 1], [1, 0, 1], [-5, 1]]
        self.assertEqual(parts_by(*mixed), whole_parts(made_of(*mixed)))

    def test_the_example(self):
        self.assertEqual([(as_ratios([-1, 1]), 1), (as_ratios([1, 1]), 1)], whole_parts([-2, 0, 2]))
        self.assertBool(True, is_whole([-2, 0, 1]))

    def test_of_degree_nought(self):
        for poly in ([5], [Ratio(-1, 3), 0], (1,)):
            self.assertEqual(([], [], as_ratios([1]), False), (
                whole_parts(poly), quadratics(poly), bound_part(poly), is_whole(poly)))

    def test_many_linear_parts(self):
        roots = [0, 1, -1, Ratio(1, 2), Ratio(-2, 3), 999999, Ratio(999999, 999998), -7]
        linear = [[-1 * number, 1] for number in roots]
        self.assertEqual(parts_by(*linear), whole_parts(made_of(*linear, [1000])))

    def test_falling_modulo_primes(self):
        for poly in FALLING:
            self.assertEqual([(as_ratios(poly), 1)], whole_parts(poly))
            for prime in (5, 7, 11, 13, 17, 19, 23, 29, 31):
                ring = Residues(prime)
                numbers = ring.reduced(poly)
                if len(ring.common(numbers, ring.reduced([at * one for at, one in enumerate(poly)][1:]))) == 1:
                    parts = prime_parts(numbers, prime)
                    self.assertGreater(len(parts), 1)
                    self.assertLessEqual(max(len(part) for part in parts), 3)
        self.assertEqual(parts_by(FALLING[0], FALLING[1]), whole_parts(made_of(FALLING[0], FALLING[1])))
        self.assertEqual([(as_ratios(FALLING[1]), 2)], whole_parts(made_of(FALLING[1], FALLING[1])))

    def test_parts_with_numbers_beyond_the_polynomials(self):
        for poly, part in SWELLING:
            self.assertIn((as_ratios(part), 1), whole_parts(poly))
            self.assertEqual(as_ratios(poly), made_of(*[whole for whole, _ in whole_parts(poly)]))
        for far in (10, 999, 999999):
            one, other = [2 * far * far, 2 * far, 1], [2 * far * far, -2 * far, 1]
            self.assertEqual(parts_by(one, other), whole_parts([4 * far ** 4, 0, 0, 0, 1]))

    def test_great_numbers(self):
        bottoms = [999983, 999979, 999961, 999959, 999953, 999931, 999917, 999907]
        one = [Ratio(999999, bottom) for bottom in bottoms[:4]] + [3]
        other = [Ratio(-123456, bottom) for bottom in bottoms[4:]] + [7]
        self.assertEqual(parts_by(one, other), whole_parts(made_of(one, other)))
        self.assertBool(True, is_whole([Ratio(2, bottom) for bottom in bottoms] + [1]))

    def test_heads_with_all_small_primes(self):
        head = 1
        for prime in (2, 3, 5, 7, 11, 13, 17, 19, 23, 29, 31, 37, 41, 43):
            head = head * prime
        one, other = [1, 1, head], [47, 3, 0, head]
        self.assertEqual(parts_by(one, other), whole_parts(made_of(one, other)))
        linear = [[number * head + 1, 1] for number in range(6)]
        self.assertEqual(parts_by(*linear), whole_parts(made_of(*linear)))

    def test_wholes_by_the_divisors_of_worths(self):
        numbers = [number for number in some_numbers(1000, 21) if isinstance(number, int)]
        for at in range(0, 240, 6):
            poly = told([*numbers[at:at + 3 + at % 3], numbers[at + 5] or 1])
            poly = [number.top for number in poly]
            if len(poly) > 1:
                self.assertBool(not splits(poly), is_whole(poly))
                for whole, _ in whole_parts(poly):
                    self.assertBool(True, is_whole(whole))

    def test_what_is_returned(self):
        parts = self.asked(whole_parts, poly=made_of([2, 1], [1, 0, 1], [1, 0, 1]))
        self.assertIsInstance(parts, list)
        for part in parts:
            self.assertEqual([tuple, list, int], [part.__class__, part[0].__class__, part[1].__class__])
            self.assertTrue(all(isinstance(number, Ratio) for number in part[0]))
            part[0].append(1)
        parts.clear()
        self.assertEqual([(as_ratios([2, 1]), 1)], whole_parts([2, 1]))

    def test_sorted_by_degree_then_by_numbers(self):
        polys = [[Ratio(1, 3), 1], [Ratio(1, 2), 1], [Ratio(-1, 2), 1], [1, 0, 1], [1, 1, 1], [-5, 1]]
        expected = [[-5, 1], [Ratio(-1, 2), 1], [Ratio(1, 3), 1], [Ratio(1, 2), 1], [1, 0, 1], [1, 1, 1]]
        self.assertEqual([(as_ratios(part), 1) for part in expected], whole_parts(made_of(*polys)))


class BoundPartTest(Case):
    def test_the_example(self):
        self.assertEqual(as_ratios([1, 0, 0, 0, 1]), bound_part([1, 0, 0, 0, 1]))
        self.assertEqual([], quadratics([1, 0, 0, 0, 1]))

    def test_quadratics_and_all_others(self):
        for others in ([], [[2, 1]], [[2, 1], [2, 1]], [[1, 0, 0, 0, 1]], [[3, 0, 3, 1], [-1, 1]]):
            for squares in ([], [[1, 0, 1]], [[1, 0, 1], [1, 0, 1]], [[1, 0, 1], [-2, 0, 1]], [[Ratio(1, 3), 0, 1]]):
                poly = made_of(*others, *squares, [Ratio(-5, 2)])
                self.assertEqual(parts_by(*squares), self.reckoned(quadratics, poly=poly))
                self.assertEqual(made_of(*[headed(one) for one in others]) if others else as_ratios([1]), self.reckoned(
                    bound_part, poly=poly))

    def test_quadratics_with_and_without_real_roots_but_never_of_two_linear_ones(self):
        self.assertEqual(parts_by([-2, 0, 1]), quadratics([-2, 0, 1]))
        self.assertEqual([], quadratics([-4, 0, 1]))
        self.assertEqual(as_ratios([-4, 0, 1]), bound_part([-4, 0, 1]))
        self.assertEqual([], quadratics([Ratio(1, 4), 1, 1]))
        self.assertEqual(4, quadratics(made_of(*[[1, 1, 1]] * 4))[0][1])

    def test_a_polynomial_that_falls_into_quadratics(self):
        self.assertEqual(as_ratios([1]), bound_part([4, 0, 0, 0, 1]))
        self.assertEqual(parts_by([2, 2, 1], [2, -2, 1]), quadratics([4, 0, 0, 0, 1]))


class WrongValuesTest(Case):
    def test_wrong_polynomials(self):
        for action in (whole_parts, is_whole, quadratics, bound_part):
            refuses_polys(self, action)
