"""Motions, rows and the part of numbers (points 7, 23, 24, 25)."""

from hingerows.eights import Eight
from hingerows.errors import (
    HeadNotOne, InvalidEights, InvalidHinge, InvalidMotion, InvalidNumber, InvalidRow, NotMotion, TooMany,
)
from hingerows.motions import Motion, hinge_motion, number_part, row_motion
from hingerows.polys import divided, plus, scaled, times, told, worth
from hingerows.ratios import Ratio
from tests.helpers import (
    Case, convolved, number_samples, some_eights, some_hinges, some_motions, some_numbers, wrong_eights,
    wrong_hinges, wrong_motions, wrong_numbers, wrong_rows,
)

ONE = Eight((1, 0, 0, 0))
NOUGHT = Eight((0, 0, 0, 0))
UP = Eight((0, 0, 0, 1))
SIDE = Eight((0, 2, 0, 0), (0, 0, 0, -2))
TURN = hinge_motion(UP)


def lifted(poly):
    return [Eight((number, 0, 0, 0)) for number in poly]


class MakingTest(Case):
    def test_of_its_eights(self):
        motion = Motion([-UP, ONE])
        self.assertEqual(TURN, motion)
        self.assertEqual(TURN, Motion(eights=(-UP, ONE)))
        self.assertEqual([-UP, ONE], motion.eights())
        self.assertEqual(1, motion.degree)
        self.assertIs(int, motion.degree.__class__)

    def test_lengths(self):
        for many in range(2, 8):
            self.assertEqual(many - 1, Motion([NOUGHT] * (many - 1) + [ONE]).degree)
        for eights in ([], (), [ONE], (ONE,), [ONE] * 8, (NOUGHT,) * 7 + (ONE,), ["a"], [None] * 8):
            self.refuses(InvalidEights, {"position": None}, Motion, eights)

    def test_no_list(self):
        for wrong in wrong_eights() + [ONE]:
            if not isinstance(wrong, (list, tuple)):
                self.refuses(InvalidEights, {"position": None}, Motion, wrong)

    def test_the_first_that_is_no_eight(self):
        for wrong in wrong_eights():
            self.refuses(InvalidEights, {"position": 1}, Motion, [ONE, wrong])
            self.refuses(InvalidEights, {"position": 0}, Motion, (wrong, None, ONE))
            self.refuses(InvalidEights, {"position": 5}, Motion, [UP] * 5 + [wrong, UP])

    def test_a_last_eight_that_is_not_one(self):
        for last in (NOUGHT, -ONE, UP, ONE.times(2), Eight((1, 0, 0, 0), (1, 0, 0, 0)), Eight((1, 0, 0, Ratio(1, 9)))):
            self.refuses(HeadNotOne, {}, Motion, [UP, last])
            self.refuses(HeadNotOne, {}, Motion, [Eight((0, 0, 0, 0), (1, 0, 0, 0)), last])

    def test_a_norm_with_a_second_part(self):
        e = Eight((0, 0, 0, 0), (1, 0, 0, 0))
        for eights in ([e, ONE], [Eight((0, 1, 0, 0), (0, 1, 0, 0)), ONE], [NOUGHT, e, ONE], [SIDE, UP, ONE]):
            total = convolved(eights, [eight.mirror() for eight in eights])
            self.assertTrue(any(eight.second()[0] != Ratio(0) for eight in total))
            self.refuses(NotMotion, {}, Motion, eights)

    def test_copies_its_eights(self):
        eights = [-UP, ONE]
        motion = Motion(eights)
        eights[0] = SIDE
        motion.eights().clear()
        motion.norm().clear()
        self.assertEqual(([-UP, ONE], told([1, 0, 1])), (motion.eights(), motion.norm()))

    def test_equal_and_shown(self):
        self.assertBool(True, TURN == Motion((-UP, ONE)))
        self.assertBool(False, TURN == hinge_motion(SIDE))
        self.assertBool(False, TURN == TURN * TURN)
        self.assertBool(True, TURN != TURN.mirror())
        for value in wrong_motions():
            self.assertBool(False, TURN == value)
            self.assertBool(False, value == TURN)
        self.assertEqual("Motion([Eight((0, 0, 0, -1), (0, 0, 0, 0)), Eight((1, 0, 0, 0), (0, 0, 0, 0))])", repr(TURN))


class NormsTest(Case):
    def test_the_motion_times_its_conjugate_from_either_side(self):
        for motion in some_motions(9):
            conjugate = [eight.mirror() for eight in motion.eights()]
            self.assertEqual(conjugate, motion.mirror().eights())
            self.assertEqual(lifted(motion.norm()), convolved(motion.eights(), conjugate))
            self.assertEqual(lifted(motion.norm()), convolved(conjugate, motion.eights()))
            self.assertEqual(motion.norm(), told(motion.norm()))
            self.assertEqual(motion, motion.mirror().mirror())

    def test_at_no_number_below_nought(self):
        for motion in some_motions(6):
            for number in (-3, -1, 0, Ratio(1, 2), 4):
                self.assertTrue(worth(motion.norm(), number).sign >= 0)

    def test_products(self):
        motions = some_motions(9)
        for one, other in zip(motions, motions[1:]):
            product = one * other
            self.assertEqual(convolved(one.eights(), other.eights()), product.eights())
            self.assertEqual(one.degree + other.degree, product.degree)
            self.assertEqual(times(one.norm(), other.norm()), product.norm())
            self.assertEqual(other.mirror() * one.mirror(), product.mirror())

    def test_products_of_great_degree(self):
        three = TURN * TURN * hinge_motion(SIDE)
        self.assertEqual(6, (three * three).degree)
        self.refuses(TooMany, {"what": "degree", "limit": 6}, lambda value: three * value, three * TURN)
        self.refuses(TooMany, {"what": "degree", "limit": 6}, lambda value: value * TURN, three * three)

    def test_products_with_other_values(self):
        self.refuses_each(InvalidMotion, wrong_motions(), lambda value: TURN * value)
        six = row_motion([UP] * 6)
        self.refuses_each(InvalidMotion, wrong_motions(), lambda value: six * value)

    def test_worths(self):
        for motion in some_motions(6):
            for number in number_samples():
                place = Eight((number, 0, 0, 0))
                power, expected = ONE, NOUGHT
                for eight in motion.eights():
                    expected, power = expected + eight * power, power * place
                self.assertEqual(expected, motion.worth(number=number))
        self.refuses_each(InvalidNumber, wrong_numbers(), TURN.worth)


class RowsTest(Case):
    def test_of_one_hinge(self):
        for hinge in some_hinges(8):
            motion = hinge_motion(hinge=hinge)
            self.assertEqual([-hinge, ONE], motion.eights())
            r, length = hinge.first()[0], Ratio.total([number * number for number in hinge.first()[1:]])
            self.assertEqual(told([r * r + length, r * -2, 1]), motion.norm())
            self.assertBool(True, motion.is_plain)
        self.refuses_each(InvalidHinge, wrong_hinges(), hinge_motion)

    def test_of_rows(self):
        hinges = some_hinges(8)
        for many in range(1, 7):
            row = hinges[:many]
            eights, norm = [ONE], [1]
            for hinge in row:
                eights = convolved(eights, [-hinge, ONE])
                norm = times(norm, hinge_motion(hinge).norm())
            motion = row_motion(row)
            self.assertEqual((eights, norm), (motion.eights(), motion.norm()))
            self.assertEqual(motion, row_motion(row=tuple(row)))

    def test_the_example_of_two_hinges(self):
        motion = row_motion((UP, SIDE))
        self.assertEqual([Eight((0, 0, 2, 0), (2, 0, 0, 0)), -(UP + SIDE), ONE], motion.eights())
        self.assertEqual(told([4, 0, 5, 0, 1]), motion.norm())

    def test_no_rows(self):
        self.refuses_each(InvalidRow, wrong_rows(), row_motion)


class PartOfNumbersTest(Case):
    def test_of_plain_motions(self):
        for motion in (TURN, row_motion([UP, SIDE]), row_motion([UP, UP]), TURN.mirror()):
            self.assertEqual(told([1]), number_part(motion=motion))
            self.assertBool(True, motion.is_plain)

    def test_a_hinge_times_its_conjugate(self):
        for hinge in some_hinges(6):
            motion = hinge_motion(hinge)
            for product in (motion * motion.mirror(), motion.mirror() * motion):
                self.assertEqual(motion.norm(), number_part(product))
                self.assertBool(False, product.is_plain)

    def test_motions_that_go_alone(self):
        go = Motion([Eight((0, 0, 0, 0), (0, 1, 2, 3)), ONE])
        self.assertEqual((told([0, 1]), False), (number_part(go), go.is_plain))
        shifted = Motion([Eight((-5, 0, 0, 0), (0, 1, 2, 3)), ONE])
        self.assertEqual((told([-5, 1]), False), (number_part(shifted * TURN), (shifted * TURN).is_plain))

    def test_divides_the_first_part_and_nothing_greater_does(self):
        numbers = some_numbers(12)
        for at, motion in enumerate(some_motions(6)):
            if motion.degree > 2:
                continue
            poly = told([numbers[at], numbers[at + 6], 1])
            product = Motion(convolved(motion.eights(), lifted(poly)))
            part = number_part(product)
            self.assertEqual(Ratio(1), part[-1])
            self.assertEqual(times(poly, number_part(motion)), part)
            for place in range(4):
                column = told([eight.first()[place] for eight in product.eights()])
                self.assertEqual([], divided(column, part)[1])

    def test_the_second_part_does_not_count(self):
        motion = Motion([Eight((1, 0, 0, 0), (0, 1, 0, 0)), Eight((0, 0, 0, 0), (0, 0, 3, 0)), ONE])
        self.assertEqual(told([1, 0, 1]), number_part(motion))

    def test_wrong_motions(self):
        self.refuses_each(InvalidMotion, wrong_motions(), number_part)

    def test_sums_of_squares(self):
        eights = some_eights(3)
        firsts = [eight.first() for eight in eights]
        total = []
        for place in range(4):
            column = [four[place] for four in firsts]
            total = plus(total, times(column, column))
        norm = convolved([Eight(four) for four in firsts], [Eight(four).mirror() for four in firsts])
        self.assertEqual(lifted(scaled(total, 1)), norm)
