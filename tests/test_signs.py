"""Real roots and square-free parts (points 32, 33)."""

from hingerows.motions import row_motion
from hingerows.polys import common, derived, divided, scaled, told
from hingerows.ratios import Ratio
from hingerows.signs import real_roots, square_free
from hingerows.wholes import whole_parts
from tests.helpers import Case, as_ratios, made_of, motions_not_plain, plain_rows, refuses_polys, rowless_motions

# Polynomials without a real root, and such with two that are no fractions.
ROOTLESS = [[1, 0, 1], [1, 1, 1], [5, -4, 1], [1, 0, 0, 0, 1], [Ratio(1, 7), 0, 2]]
TWO_ROOTS = [[-2, 0, 1], [-1, -1, 1], [2, 0, 0, 0, -1], [Ratio(-1, 3), 5, 1]]


def root(number):
    return [-1 * number, 1]


def some_polys():
    """Each a polynomial with how many unlike real roots it has, and its square-free part."""
    third, far = Ratio(1, 3), 999999
    return [
        ([7], 0, [1]), ([Ratio(-2, 5), 0], 0, [1]), (root(0), 1, root(0)), ([3, -6], 1, [Ratio(-1, 2), 1]),
        ([0, 0, 3], 1, [0, 1]), ([0] * 8 + [-5], 1, [0, 1]), (made_of(root(1), root(1), [-2]), 1, root(1)),
        (made_of(root(1), root(2), root(-3)), 3, made_of(root(1), root(2), root(-3))),
        (made_of(*[root(third)] * 3, *[root(far)] * 2, root(-far)), 3, made_of(root(third), root(far), root(-far))),
        (made_of(*[root(number) for number in range(8)]), 8, made_of(*[root(number) for number in range(8)])),
        (made_of(root(far), root(far - 1), root(Ratio(far, 2)), [-1]), 3, made_of(
            root(far), root(far - 1), root(Ratio(far, 2)))),
        (made_of(TWO_ROOTS[0], TWO_ROOTS[0], ROOTLESS[0], ROOTLESS[0]), 2, made_of(TWO_ROOTS[0], ROOTLESS[0])),
        (made_of(TWO_ROOTS[0], TWO_ROOTS[1], root(0), root(0)), 5, made_of(TWO_ROOTS[0], TWO_ROOTS[1], root(0))),
        (made_of(*[ROOTLESS[1]] * 4), 0, ROOTLESS[1]), (made_of(*[ROOTLESS[2]] * 3, [-3]), 0, ROOTLESS[2]),
        ([-1, 0, 0, 0, 0, 0, 0, 0, 1], 2, [-1, 0, 0, 0, 0, 0, 0, 0, 1]), ([1, 1, 0, 1], 1, [1, 1, 0, 1]),
        ([-1, 3, 0, -1], 3, [1, -3, 0, 1]), ([1] * 8, 1, [1] * 8), ([1] * 9, 0, [1] * 9),
    ]


class RealRootsTest(Case):
    def test_how_many(self):
        for poly, many, _ in some_polys():
            self.assertEqual(many, self.reckoned(real_roots, poly=poly), poly)
            self.assertIs(int, real_roots(poly).__class__)
            for scale in (-1, Ratio(1, 999999), -123456):
                self.assertEqual(many, real_roots(scaled(poly, scale)))
            self.assertEqual(many, real_roots((*poly, 0, Ratio(0))))

    def test_of_rootless_ones_and_others(self):
        for poly in ROOTLESS:
            self.assertEqual(0, real_roots(poly))
        for poly in TWO_ROOTS:
            self.assertEqual(2, real_roots(poly))
            for other in ROOTLESS:
                self.assertEqual(2, real_roots(made_of(poly, other)))
                if len(poly) + len(other) < 10:
                    self.assertEqual(3, real_roots(made_of(poly, root(17), other)))

    def test_roots_close_to_one_another(self):
        close = made_of(root(Ratio(999998, 999999)), root(Ratio(999999, 1000000)), root(1))
        self.assertEqual(3, real_roots(close))
        self.assertEqual(0, real_roots([Ratio(1, 10 ** 12), 0, 1]))
        self.assertEqual(2, real_roots([Ratio(-1, 10 ** 12), 0, 1]))

    def test_of_odd_degree_there_is_one_at_least(self):
        for poly, many, _ in some_polys():
            if len(told(poly)) in (2, 4, 6, 8):
                self.assertGreaterEqual(many, 1)
        self.assertEqual(1, real_roots([1, 1, 1, 1, 1, 1, 1, 1]))

    def test_norms_of_plain_motions_have_none(self):
        for motion in [row_motion(row) for row in plain_rows()] + rowless_motions():
            if motion.degree < 5:
                self.assertEqual(0, real_roots(motion.norm()))
        self.assertEqual(1, real_roots(motions_not_plain()[2].norm()))


class SquareFreeTest(Case):
    def test_each_part_once(self):
        for poly, _, expected in some_polys():
            self.assertEqual(as_ratios(list(expected)), self.reckoned(square_free, poly=poly))
            self.assertIsInstance(square_free(poly), list)

    def test_the_facts(self):
        for poly, _, _ in some_polys():
            free = square_free(poly)
            shared = common(poly, derived(poly))
            self.assertEqual(free, scaled(divided(poly, shared)[0], Ratio(1).over(told(poly)[-1])))
            self.assertEqual([Ratio(1)], common(free, derived(free)))
            self.assertEqual([(whole, 1) for whole, _ in whole_parts(poly)], whole_parts(free))

    def test_returned_lists_are_new(self):
        poly = [Ratio(1), Ratio(0), Ratio(1)]
        square_free(poly).append(5)
        self.assertEqual([Ratio(1), Ratio(0), Ratio(1)], square_free(poly))
        self.assertEqual(3, len(poly))


class WrongValuesTest(Case):
    def test_wrong_polynomials(self):
        for action in (real_roots, square_free):
            refuses_polys(self, action)
