"""Right and left parts (points 41, 42, 45, 46)."""

from hingerows.divisions import left_divided, rest_by, right_divided
from hingerows.eights import Eight
from hingerows.errors import InvalidDivisor, InvalidMotion, NotPart, NotPlain
from hingerows.motions import Motion, hinge_motion, number_part, row_motion
from hingerows.parts import is_left_part, is_right_part, left_part, quotient, right_part
from hingerows.polys import divided, told
from hingerows.ratios import Ratio
from hingerows.sequences import divisors
from tests.helpers import (
    BESIDE, BOTH, CUBE, CUBE_NORM, FAST, FOURTH, FOURTH_NORM, LEVEL, ONE, SIDE, SLANT, SLOW, SQUARE,
    SQUARE_NORM, THIRD, THIRD_NORM, TURN, UP, WIDE, Case, alone, as_ratios, lifted, made_of, motions_not_plain, norm_of,
    plain_motions, plain_rows, refuses_divisors, wrong_motions,
)

WHOLE = row_motion([Eight((0, 1, 0, 0)), Eight((0, 0, 2, 0))])
LONG = row_motion([UP, SIDE, FAST, SLOW, WIDE, LEVEL])


def motions_with_divisors():
    """Plain motions, each with divisors of its norm of degree 2 and more."""
    cases = []
    for motion in plain_motions():
        if motion.degree <= 4:
            cases.append((motion, [one for one in divisors(motion.norm()) if len(one) > 1]))
    for row in plain_rows():
        norms = [norm_of(hinge) for hinge in row]
        if len(row) > 4:
            cases.append((row_motion(row), [norms[0], made_of(*norms[1:3]), made_of(*norms[:3]), made_of(*norms[1:])]))
    mixed = SQUARE * row_motion([SIDE, FAST]) * THIRD
    wanted = [SQUARE_NORM, made_of(THIRD_NORM, norm_of(SIDE)), made_of(SQUARE_NORM, THIRD_NORM), norm_of(FAST)]
    cases.append((mixed, wanted))
    cases.append((CUBE * BOTH, [CUBE_NORM, made_of(CUBE_NORM, norm_of(UP)), norm_of(SIDE)]))
    cases.append((BOTH * FOURTH, [FOURTH_NORM, made_of(FOURTH_NORM, norm_of(UP)), norm_of(UP)]))
    return cases


class RightPartTest(Case):
    def test_one_for_each_divisor(self):
        for motion, wanted in motions_with_divisors():
            for divisor in wanted:
                part = right_part(motion, divisor)
                self.assertIsInstance(part, Motion)
                self.assertEqual(told(divisor), part.norm())
                self.assertEqual(2 * part.degree, len(told(divisor)) - 1)
                self.assertBool(True, part.is_plain)
                left, rest = right_divided(motion, part)
                self.assertEqual([], rest)
                if part.degree < motion.degree:
                    self.assertEqual(divided(motion.norm(), divisor), (Motion(left).norm(), []))

    def test_of_the_whole_norm(self):
        for motion in plain_motions():
            self.assertEqual(motion, right_part(motion, motion.norm()))
            self.assertEqual(motion, left_part(motion, motion.norm()))

    def test_by_names_lists_tuples_and_ratios(self):
        for poly in ([4, 0, 1], [4, 0, 1, 0, Ratio(0)], [Ratio(4), Ratio(0), Ratio(2, 2)]):
            self.assertEqual(hinge_motion(SIDE), self.reckoned(right_part, motion=BOTH, poly=poly))
        self.assertEqual(TURN, self.reckoned(left_part, motion=BOTH, poly=[1, 0, 1, 0]))
        self.assertEqual(BOTH, right_part(poly=(4, 0, 5, 0, 1), motion=BOTH))

    def test_ends_of_products(self):
        ends = [TURN, hinge_motion(SIDE), SQUARE, THIRD, CUBE, BOTH, row_motion([FAST, SLOW, WIDE])]
        for first in ends:
            for last in ends:
                both = first * last
                if both.is_plain:
                    self.assertEqual(last, right_part(both, last.norm()))
                    self.assertEqual(first, left_part(both, first.norm()))

    def test_no_other_hinge_with_this_norm(self):
        self.assertEqual(TURN, right_part(row_motion([SIDE, FAST, UP]), norm_of(UP)))
        for other in (LEVEL, BESIDE, SLANT, -UP, Eight((0, 0, 0, 1), (0, 1, 0, 0))):
            self.assertEqual(norm_of(UP), norm_of(other))
            self.assertBool(False, is_right_part(row_motion([SIDE, FAST, UP]), hinge_motion(other)))
            self.assertBool(False, is_left_part(row_motion([UP, SIDE, FAST]), hinge_motion(other)))

    def test_hinges_of_the_same_norm_have_one_way_alone(self):
        row = [UP, LEVEL, BESIDE, SLANT]
        for many in range(1, 5):
            self.assertEqual(row_motion(row[4 - many:]), right_part(row_motion(row), made_of(*[[1, 0, 1]] * many)))
            self.assertEqual(row_motion(row[:many]), left_part(row_motion(row), made_of(*[[1, 0, 1]] * many)))

    def test_great_numbers(self):
        great, small = Ratio(-123457, 654321), Ratio(1, 999979)
        fine = Eight((Ratio(999983, 999979), great, 0, small), (0, small, 5, -great))
        motion = row_motion([fine, SIDE, FAST, Eight((great, 1, small, 0), (0, small, -1, 999999))])
        for divisor in (norm_of(fine), made_of(norm_of(fine), norm_of(SIDE)), made_of(norm_of(fine), norm_of(FAST))):
            part = right_part(motion, divisor)
            self.assertEqual(divisor, part.norm())
            self.assertBool(True, is_right_part(motion, part))


class HowTest(Case):
    def test_the_first_part_is_what_is_common(self):
        for motion, wanted in motions_with_divisors():
            first = Motion([Eight(eight.first()) for eight in motion.eights()])
            for divisor in wanted:
                part = right_part(motion, divisor)
                common = Motion([Eight(eight.first()) for eight in part.eights()])
                self.assertEqual([], right_divided(first, common)[1])
                if len(divisor) <= 7:
                    self.assertEqual([], right_divided(Motion(lifted(divisor)), common)[1])

    def test_a_quadratic_leaves_two_eights_that_tell_the_hinge(self):
        for row in plain_rows():
            motion = row_motion(row)
            for hinge in row:
                low, high = (*rest_by(motion, norm_of(hinge)), None)[:2]
                last = -(high.undone() * low)
                self.assertTrue(last.is_hinge)
                self.assertEqual(hinge_motion(last), right_part(motion, norm_of(hinge)))


class LeftPartTest(Case):
    def test_by_conjugates(self):
        for motion, wanted in motions_with_divisors():
            for divisor in wanted:
                part = left_part(motion, divisor)
                self.assertEqual(told(divisor), part.norm())
                self.assertEqual(right_part(motion.mirror(), divisor).mirror(), part)
                self.assertEqual([], left_divided(motion, part)[1])
                self.assertBool(True, is_left_part(motion, part))
                self.assertBool(True, is_right_part(motion.mirror(), part.mirror()))

    def test_what_is_left_of_a_right_part(self):
        for motion, wanted in motions_with_divisors():
            for divisor in wanted:
                if len(divisor) < len(motion.norm()):
                    rest = quotient(motion, right_part(motion, divisor))
                    self.assertEqual(left_part(motion, divided(motion.norm(), divisor)[0]), rest)


class ExampleTest(Case):
    def test_the_example(self):
        self.assertEqual(
            alone(Eight((0, 0, 0, 2)), -Eight((0, 1, 2, 0))), WHOLE)
        self.assertEqual(made_of([1, 0, 1], [4, 0, 1]), WHOLE.norm())
        self.assertEqual(hinge_motion(Eight((0, 0, 2, 0))), right_part(WHOLE, [4, 0, 1]))
        moved = Eight((0, Ratio(-3, 5), Ratio(4, 5), 0))
        self.assertEqual(hinge_motion(moved), right_part(WHOLE, [1, 0, 1]))
        self.assertEqual([Eight((-1, 0, 0, 2)), -Eight((0, 1, 2, 0))], rest_by(WHOLE, [1, 0, 1]))


class IsPartTest(Case):
    def test_parts_and_others(self):
        for row in plain_rows():
            motion = row_motion(row)
            for many in range(1, len(row)):
                self.assertBool(True, self.asked(is_right_part, motion=motion, value=row_motion(row[many:])))
                self.assertBool(True, self.asked(is_left_part, motion=motion, value=row_motion(row[:many])))
            self.assertBool(True, is_right_part(motion, motion))
            self.assertBool(True, is_left_part(motion, motion))
            self.assertBool(False, is_right_part(row_motion(row[:1]), row_motion([*row, UP][:2])))
        self.assertBool(False, is_right_part(BOTH, TURN))
        self.assertBool(False, is_left_part(BOTH, hinge_motion(SIDE)))

    def test_the_first_part_alone_does_not_tell(self):
        shifted = hinge_motion(Eight((0, 2, 0, 0), (0, 0, 1, -2)))
        self.assertBool(False, is_right_part(BOTH, shifted))
        self.assertBool(False, is_right_part(BOTH, row_motion([UP, Eight((0, 2, 0, 0), (0, 0, 1, -2))])))
        self.assertBool(False, is_left_part(BOTH, hinge_motion(Eight((0, 0, 0, 1), (0, 1, 0, 0)))))

    def test_any_value(self):
        for value in wrong_motions() + [lifted([1, 0, 1]), UP, [1, 0, 1], *motions_not_plain()]:
            self.assertBool(False, is_right_part(BOTH, value))
            self.assertBool(False, is_left_part(BOTH, value))

    def test_of_degree_six(self):
        self.assertBool(True, is_right_part(LONG, row_motion([WIDE, LEVEL])))
        self.assertBool(True, is_left_part(LONG, row_motion([UP, SIDE, FAST, SLOW, WIDE])))
        self.assertBool(False, is_right_part(LONG, row_motion([SLOW, LEVEL])))


class QuotientTest(Case):
    def test_what_is_left(self):
        for row in plain_rows():
            for many in range(1, len(row)):
                last = row_motion(row[many:])
                self.assertEqual(row_motion(row[:many]), self.asked(quotient, motion=row_motion(row), part=last))
        self.assertEqual(SQUARE, quotient(SQUARE * THIRD, THIRD))

    def test_no_right_part_of_lesser_degree(self):
        for part in (BOTH, TURN, row_motion([SIDE, UP]), LONG, SQUARE, TURN * TURN.mirror()):
            self.refuses(NotPart, {}, quotient, BOTH, part)
        self.refuses(NotPart, {}, quotient, TURN, TURN)
        self.refuses(NotPart, {}, quotient, TURN, BOTH)

    def test_wrong_values(self):
        self.refuses_each(InvalidMotion, wrong_motions(), lambda value: quotient(value, TURN))
        self.refuses_each(InvalidMotion, wrong_motions(), lambda value: quotient(BOTH, value))
        self.refuses(InvalidMotion, {"value": "one"}, quotient, "one", "other")
        for motion in motions_not_plain():
            self.refuses(InvalidMotion, {"value": None}, quotient, motion, None)
            self.refuses(NotPlain, {}, quotient, motion, motion)
            self.refuses(NotPlain, {}, quotient, motion, TURN)


class WrongValuesTest(Case):
    def test_motions(self):
        for action in (right_part, left_part, is_right_part, is_left_part):
            self.refuses_each(InvalidMotion, wrong_motions(), lambda value, act=action: act(value, [1, 0, 1]))
            self.refuses(InvalidMotion, {"value": True}, action, True, "no divisor")

    def test_divisors(self):
        for action in (right_part, left_part):
            for motion in (BOTH, SQUARE, LONG):
                refuses_divisors(self, lambda value, act=action, one=motion: act(one, value), motion.norm())
            self.refuses(InvalidMotion, {"value": 1}, action, 1, [1, 0, 1])

    def test_motions_that_are_not_plain(self):
        for motion in motions_not_plain():
            self.assertGreater(len(number_part(motion)), 1)
            norm = motion.norm()
            for action in (right_part, left_part):
                refuses_divisors(self, lambda value, act=action, one=motion: act(one, value), norm)
                self.refuses(NotPlain, {}, action, motion, norm)
            for action in (is_right_part, is_left_part):
                self.refuses(NotPlain, {}, action, motion, motion)
                self.refuses(NotPlain, {}, action, motion, None)
        go = alone(Eight((0, 0, 0, 0), (0, 1, 0, 0)))
        for divisor in ([0, 1], (0, 1, 0), [1, 1], [1]):
            self.refuses(InvalidDivisor, {"value": divisor}, right_part, go * BOTH, divisor)
            self.refuses(InvalidDivisor, {"value": divisor}, left_part, go * BOTH, divisor)
        self.refuses(NotPlain, {}, right_part, go * BOTH, [0, 0, 1])
        self.refuses(NotPlain, {}, right_part, go * BOTH, made_of([0, 1], [1, 0, 1]))
        self.assertEqual(as_ratios([0, 0, 1]), go.norm())
        self.assertEqual(ONE, go.eights()[-1])
