"""Divisions, worths and rests of motions (points 26, 27, 28)."""

from hingerows.divisions import left_divided, rest_by, right_divided, right_worth
from hingerows.eights import Eight
from hingerows.errors import HeadNotOne, InvalidEight, InvalidMotion, InvalidPoly, NoughtPoly
from hingerows.motions import Motion, hinge_motion, row_motion
from hingerows.polys import told
from hingerows.ratios import Ratio
from tests.helpers import (
    Case, convolved, some_eights, some_hinges, some_motions, some_numbers, summed, wrong_eights, wrong_motions,
    wrong_polys,
)

ONE = Eight((1, 0, 0, 0))
NOUGHT = Eight((0, 0, 0, 0))
UP = Eight((0, 0, 0, 1))
SIDE = Eight((0, 2, 0, 0), (0, 0, 0, -2))
TURN = hinge_motion(UP)
BOTH = row_motion([UP, SIDE])


def joined(quotient, other, rest):
    """Quotient times the other one, and the rest."""
    product = convolved(quotient, other) if quotient and other else []
    return summed(product, rest)


class DivisionsTest(Case):
    def assertForm(self, result, motion, other):
        self.assertIsInstance(result, tuple)
        quotient, rest = result
        self.assertEqual([list, list], [quotient.__class__, rest.__class__])
        self.assertTrue(all(isinstance(eight, Eight) for eight in quotient + rest))
        self.assertLessEqual(len(rest), other.degree)
        self.assertFalse(rest and rest[-1] == NOUGHT)
        self.assertEqual(max(0, motion.degree - other.degree + 1), len(quotient))

    def test_quotient_times_the_other_one_and_the_rest(self):
        for motion in some_motions(9):
            for other in some_motions(9, 8):
                result = right_divided(motion=motion, other=other)
                self.assertForm(result, motion, other)
                self.assertEqual(motion.eights(), joined(result[0], other.eights(), result[1]))
                result = left_divided(motion=motion, other=other)
                self.assertForm(result, motion, other)
                self.assertEqual(motion.eights(), joined(other.eights(), result[0], result[1]))

    def test_products_are_divided_without_a_rest(self):
        motions = some_motions(6)
        for one, other in zip(motions, motions[1:]):
            self.assertEqual((one.eights(), []), right_divided(one * other, other))
            self.assertEqual((other.eights(), []), left_divided(one * other, one))

    def test_the_sides_are_not_alike(self):
        self.assertEqual(([-UP, ONE], []), right_divided(BOTH, hinge_motion(SIDE)))
        self.assertEqual(([-SIDE, ONE], []), left_divided(BOTH, TURN))
        self.assertNotEqual([], right_divided(BOTH, TURN)[1])
        self.assertNotEqual([], left_divided(BOTH, hinge_motion(SIDE))[1])

    def test_of_lesser_degree(self):
        self.assertEqual(([], TURN.eights()), right_divided(TURN, BOTH))
        self.assertEqual(([], TURN.eights()), left_divided(TURN, BOTH))

    def test_of_the_same_degree(self):
        self.assertEqual(([ONE], []), right_divided(TURN, TURN))
        self.assertEqual(([ONE], [SIDE - UP]), right_divided(TURN, hinge_motion(SIDE)))
        self.assertEqual(([ONE], [SIDE - UP]), left_divided(TURN, hinge_motion(SIDE)))

    def test_a_rest_of_second_parts_alone(self):
        shifted = Eight((0, 0, 0, 1), (0, 1, 0, 0))
        self.assertEqual(([ONE], [shifted - UP]), right_divided(TURN, hinge_motion(shifted)))

    def test_returned_lists_are_new(self):
        for divide in (right_divided, left_divided):
            quotient, rest = divide(TURN, BOTH)
            quotient.append(ONE)
            rest.clear()
            self.assertEqual(([], [-UP, ONE]), divide(TURN, BOTH))
        self.assertEqual([-UP, ONE], TURN.eights())

    def test_wrong_motions(self):
        for divide in (right_divided, left_divided):
            self.refuses_each(InvalidMotion, wrong_motions(), lambda value, act=divide: act(value, TURN))
            self.refuses_each(InvalidMotion, wrong_motions(), lambda value, act=divide: act(TURN, value))
            self.refuses(InvalidMotion, {"value": "one"}, divide, "one", "other")


class WorthsTest(Case):
    def test_powers_at_the_right(self):
        for motion in some_motions(6):
            for eight in some_eights(4):
                power, expected = ONE, NOUGHT
                for coefficient in motion.eights():
                    expected, power = expected + coefficient * power, power * eight
                self.assertEqual(expected, right_worth(motion=motion, eight=eight))

    def test_the_right_worth_is_the_rest(self):
        for motion in some_motions(9):
            for hinge in some_hinges(4, 9):
                rest = right_divided(motion, hinge_motion(hinge))[1]
                worth = right_worth(motion, hinge)
                self.assertEqual([] if worth == NOUGHT else [worth], rest)

    def test_of_a_row_at_its_last_hinge(self):
        hinges = some_hinges(6)
        for many in range(1, 6):
            self.assertEqual(NOUGHT, right_worth(row_motion(hinges[:many]), hinges[many - 1]))
        self.assertNotEqual(NOUGHT, right_worth(BOTH, UP))

    def test_at_numbers(self):
        for motion in some_motions(4):
            for number in some_numbers(4):
                self.assertEqual(motion.worth(number), right_worth(motion, Eight((number, 0, 0, 0))))

    def test_wrong_values(self):
        self.refuses_each(InvalidMotion, wrong_motions(), lambda value: right_worth(value, UP))
        self.refuses_each(InvalidEight, wrong_eights(), lambda value: right_worth(TURN, value))
        self.refuses(InvalidMotion, {"value": "one"}, right_worth, "one", "other")


class RestsTest(Case):
    def test_the_same_rest_from_either_side(self):
        polys = [[1, 0, 1], (4, 0, 1, 0, 0), [Ratio(1, 2), 1], [-3, 2, Ratio(-1, 3), 1], [1]]
        for motion in some_motions(9):
            for poly in polys:
                rest = rest_by(motion=motion, poly=poly)
                self.assertIsInstance(rest, list)
                divisor = [Eight((number, 0, 0, 0)) for number in told(poly)]
                self.assertLess(len(rest), len(divisor))
                self.assertFalse(rest and rest[-1] == NOUGHT)
                lacking = summed(motion.eights(), [-eight for eight in rest])
                quotient = exact(lacking, divisor)
                self.assertEqual(lacking, joined(quotient, divisor, []))
                self.assertEqual(lacking, joined(divisor, quotient, []))

    def test_at_the_edges(self):
        self.assertEqual([], rest_by(TURN, [1]))
        self.assertEqual([], rest_by(TURN, [1, 0]))
        self.assertEqual([-UP, ONE], rest_by(TURN, [0, 0, 1]))
        self.assertEqual([-UP, ONE], rest_by(TURN, [0] * 24 + [1]))
        self.assertEqual([Eight((2, 0, 0, -1))], rest_by(TURN, [-2, 1]))
        self.assertEqual([], rest_by(TURN * TURN.mirror(), [1, 0, Ratio(2, 2)]))

    def test_the_norm_and_its_parts(self):
        self.assertEqual([BOTH.eights()[0] - ONE, BOTH.eights()[1]], rest_by(BOTH, [1, 0, 1]))
        go = Motion([Eight((0, 0, 0, 0), (0, 1, 0, 0)), ONE])
        self.assertEqual([Eight((0, 0, 0, 0), (0, 1, 0, 0))], rest_by(go, [0, 1]))

    def test_nought_and_other_heads(self):
        for nought in ([], (), [0], [0, Ratio(0)]):
            self.refuses(NoughtPoly, {}, rest_by, TURN, nought)
        for poly in ([2], [1, 0, -1], [1, 0, Ratio(1, 2), 0], (0, 2)):
            self.refuses(HeadNotOne, {}, rest_by, TURN, poly)

    def test_wrong_values(self):
        self.refuses_each(InvalidMotion, wrong_motions(), lambda value: rest_by(value, [1, 0, 1]))
        self.refuses_each(InvalidPoly, wrong_polys(), lambda value: rest_by(TURN, value))
        self.refuses(InvalidMotion, {"value": None}, rest_by, None, [])


def exact(values, divisor):
    """The quotient of eights by a polynomial of numbers with the head 1, step by step from the head on."""
    values, quotient = list(values), []
    while len(values) >= len(divisor):
        head = values[-1]
        quotient.insert(0, head)
        lowered = [NOUGHT] * (len(values) - len(divisor)) + [-(head * eight) for eight in divisor]
        values = [one + other for one, other in zip(values, lowered)][:-1]
    return quotient
