"""Why there is no row (point 53)."""

from hingerows.eights import Eight
from hingerows.errors import InvalidMotion, NotPlain, TooMany
from hingerows.motions import row_motion
from hingerows.polys import divided, told
from hingerows.ratios import Ratio
from hingerows.reasons import is_why_no_row, why_no_row
from hingerows.rows import a_row
from hingerows.sequences import divisors
from hingerows.wholes import bound_part, quadratics
from tests.helpers import (
    BOTH, CUBE, CUBE_NORM, FAST, FOURTH, FOURTH_NORM, NOUGHT, SIDE, SQUARE, SQUARE_NORM, THIRD, THIRD_NORM, TURN, UP,
    Case, alone, made_of, motions_not_plain, norm_of, plain_motions, plain_rows, wrong_motions, wrong_polys,
)


class ReasonsTest(Case):
    def test_a_row_or_a_reason_and_never_both(self):
        for motion in plain_motions():
            if motion.degree > 4:
                continue
            reason = self.asked(why_no_row, motion=motion)
            self.assertBool(a_row(motion) is None, reason is not None)
            if reason is not None:
                self.assertBool(True, self.asked(is_why_no_row, motion=motion, value=reason))
                self.assertEqual(told(reason), reason)
                self.assertEqual(Ratio(1), reason[-1])
                self.assertGreaterEqual(len(reason), 5)
                self.assertEqual([], divided(motion.norm(), reason)[1])
                self.assertEqual([], quadratics(reason))
                self.assertEqual(reason, why_no_row(motion))

    def test_the_example(self):
        square = alone(Eight((0, 1, 0, 0)), NOUGHT)
        self.assertEqual(told([1, 0, 0, 0, 1]), square.norm())
        self.assertEqual(told([1, 0, 0, 0, 1]), why_no_row(square))
        self.assertBool(True, is_why_no_row(square, [1, 0, 0, 0, 1]))

    def test_each_reason_and_no_other_divisor(self):
        for motion in plain_motions():
            if motion.degree <= 4:
                for divisor in divisors(motion.norm()):
                    expected = len(divisor) >= 5 and bound_part(divisor) == divisor
                    self.assertBool(expected, self.reckoned(is_why_no_row, motion=motion, value=divisor))

    def test_reasons_of_two_parts(self):
        motion = SQUARE * THIRD
        for value in (SQUARE_NORM, THIRD_NORM, made_of(SQUARE_NORM, THIRD_NORM), (*THIRD_NORM, 0, Ratio(0))):
            self.assertBool(True, is_why_no_row(motion, value))
        self.assertBool(True, is_why_no_row(CUBE * TURN, CUBE_NORM))
        self.assertBool(False, is_why_no_row(CUBE * TURN, made_of(CUBE_NORM, [1, 0, 1])))
        self.assertBool(True, is_why_no_row(FOURTH, FOURTH_NORM))

    def test_returned_lists_are_new(self):
        why_no_row(SQUARE).clear()
        self.assertEqual(told(SQUARE_NORM), why_no_row(SQUARE))

    def test_any_value(self):
        norm = norm_of(UP)
        for value in wrong_polys() + [
            None, [], [0], [1], norm, made_of(norm, SQUARE_NORM), [2, 0, 0, 0, 2], [-1, 0, 0, 0, -1], THIRD_NORM,
            made_of(SQUARE_NORM, SQUARE_NORM), [0, *SQUARE_NORM], [1, 0, 0, 0, Ratio(1, 2)], SQUARE, [SQUARE_NORM],
            [0] * 24 + [1], [1, 0, 0, 0, True],
        ]:
            self.assertBool(False, is_why_no_row(SQUARE * TURN, value))
            self.assertBool(False, is_why_no_row(BOTH, value))
        self.assertBool(True, is_why_no_row(value=SQUARE_NORM, motion=SQUARE * TURN))

    def test_wrong_values(self):
        others = [lambda value, wrong=one: is_why_no_row(value, wrong) for one in (SQUARE_NORM, 0, None)]
        for action in (why_no_row, *others):
            self.refuses_each(InvalidMotion, wrong_motions(), action)
            for motion in motions_not_plain():
                self.refuses(NotPlain, {}, action, motion)
            for row in plain_rows():
                if len(row) > 4:
                    self.refuses(TooMany, {"what": "degree", "limit": 8}, action, row_motion(row))
            for motion in (SQUARE * CUBE, SQUARE * THIRD * row_motion([SIDE, FAST])):
                self.refuses(TooMany, {"what": "degree", "limit": 8}, action, motion)
