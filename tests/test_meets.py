"""What right parts have in common (points 43, 44)."""

from hingerows.divisions import right_divided
from hingerows.eights import Eight
from hingerows.errors import InvalidDivisor, InvalidMotion, NotPlain, TooMany
from hingerows.meets import common_right, least_over, right_parts, within
from hingerows.motions import Motion, hinge_motion, row_motion
from hingerows.parts import is_right_part, right_part
from hingerows.polys import common, divided, times
from hingerows.sequences import divisors
from tests.helpers import (
    BESIDE, BOTH, CUBE, FAST, FOURTH, LEVEL, SIDE, SLANT, SLOW, SQUARE, SQUARE_NORM, THIRD, TURN, UP, WIDE, Case,
    made_of, motions_not_plain, norm_of, plain_motions, plain_rows, refuses_divisors, wrong_motions,
)

MOVED = Eight((0, 0, 0, 1), (0, 1, 0, 0))
LONG = row_motion([UP, SIDE, FAST, SLOW, WIDE, LEVEL])


def small_motions():
    """Plain motions of degree 2 to 4."""
    return [motion for motion in plain_motions() if 2 <= motion.degree <= 4]


def true_divisors(poly):
    return [divisor for divisor in divisors(poly) if len(divisor) > 1]


def told_common(motion, other):
    """The right part of greatest degree among those that are the same at each divisor of both norms."""
    parts = []
    for divisor in true_divisors(common(motion.norm(), other.norm())):
        if right_part(motion, divisor) == right_part(other, divisor):
            parts.append(right_part(motion, divisor))
    return parts[-1] if parts else None


def pairs():
    """Pairs of plain motions, with common right parts and without, of like and unlike norms."""
    ends = [[UP], [SIDE], [UP, SIDE], [LEVEL, UP], [FAST, UP], [UP, SLANT, BESIDE]]
    starts = [[], [SLOW], [UP], [SIDE], [MOVED, LEVEL], [SIDE, WIDE]]
    found = []
    for at, end in enumerate(ends):
        for step, start in enumerate(starts):
            other_start, other_end = starts[(step + at + 1) % len(starts)], ends[(at + step) % len(ends)]
            for last in (end, other_end):
                one, other = row_motion([*start, *end]), row_motion([*other_start, *last])
                if one.is_plain and other.is_plain and one.degree <= 4 and other.degree <= 4:
                    found.append((one, other))
    return found


class WithinTest(Case):
    def test_of_divisors_that_divide_one_another(self):
        for motion in (row_motion([UP, LEVEL, SIDE]), row_motion([UP, SIDE, FAST]), SQUARE * BOTH):
            for lesser in true_divisors(motion.norm()):
                for greater in true_divisors(motion.norm()):
                    expected = divided(greater, lesser)[1] == []
                    one, other = right_part(motion, lesser), right_part(motion, greater)
                    self.assertBool(expected, within(one, other))

    def test_by_names_and_at_the_edges(self):
        self.assertBool(True, self.asked(within, motion=hinge_motion(SIDE), other=BOTH))
        self.assertBool(False, self.asked(within, motion=BOTH, other=hinge_motion(SIDE)))
        self.assertBool(False, within(TURN, BOTH))
        self.assertBool(True, within(other=LONG, motion=row_motion([SLOW, WIDE, LEVEL])))
        for motion in plain_motions():
            self.assertBool(True, within(motion, motion))

    def test_wrong_values(self):
        self.refuses_each(InvalidMotion, wrong_motions(), lambda value: within(value, BOTH))
        self.refuses_each(InvalidMotion, wrong_motions(), lambda value: within(BOTH, value))
        self.refuses(InvalidMotion, {"value": "one"}, within, "one", "other")
        for motion in motions_not_plain():
            self.refuses(InvalidMotion, {"value": 0}, within, motion, 0)
            self.refuses(NotPlain, {}, within, motion, BOTH)
            self.refuses(NotPlain, {}, within, BOTH, motion)


class CommonRightTest(Case):
    def test_of_two_parts_of_one_motion(self):
        for motion in (row_motion([UP, LEVEL, SIDE]), row_motion([UP, SIDE, FAST]), SQUARE * BOTH, SQUARE * THIRD):
            parts = right_parts(motion)
            for one in parts:
                for other in parts:
                    shared = common(one.norm(), other.norm())
                    expected = right_part(motion, shared) if len(shared) > 1 else None
                    self.assertEqual(expected, common_right(one, other))

    def test_of_any_two(self):
        found = {None: 0, 1: 0, 2: 0, 3: 0, 4: 0}
        for one, other in pairs():
            expected = told_common(one, other)
            self.assertEqual(expected, common_right(one, other))
            self.assertEqual(expected, common_right(other, one))
            found[expected and expected.degree] += 1
        self.assertTrue(all(found.values()), found)

    def test_each_common_part_is_within_the_greatest(self):
        for one, other in pairs():
            greatest = common_right(one, other)
            for part in right_parts(one):
                if is_right_part(other, part):
                    self.assertBool(True, within(part, greatest))

    def test_not_each_common_divisor_is_a_norm(self):
        one, other = row_motion([SIDE, UP]), row_motion([FAST, SIDE, LEVEL])
        self.assertEqual(norm_of(UP), norm_of(LEVEL))
        self.assertEqual(5, len(common(one.norm(), other.norm())))
        self.assertIsNone(common_right(one, other))
        self.assertEqual(hinge_motion(SIDE), common_right(row_motion([UP, SIDE]), row_motion([LEVEL, SIDE])))

    def test_first_parts_alike_and_second_parts_unlike(self):
        shifted = Eight((0, 2, 0, 0), (0, 0, 1, 1))
        one, other = row_motion([UP, SIDE]), row_motion([UP, shifted])
        self.assertEqual([eight.first() for eight in one.eights()], [eight.first() for eight in other.eights()])
        self.assertIsNone(common_right(one, other))
        self.assertEqual(hinge_motion(SIDE), common_right(one, row_motion([MOVED, SIDE])))
        long, moved = row_motion([UP, LEVEL, SLANT]), row_motion([MOVED, LEVEL, SLANT])
        self.assertEqual(row_motion([LEVEL, SLANT]), common_right(long, moved))

    def test_without_hinges(self):
        self.assertEqual(SQUARE, common_right(THIRD * SQUARE, CUBE * SQUARE))
        self.assertIsNone(common_right(SQUARE * THIRD, SQUARE * CUBE))
        self.assertEqual(THIRD, self.asked(common_right, motion=SQUARE * THIRD, other=THIRD))

    def test_without_a_common_divisor(self):
        self.assertIsNone(common_right(TURN, hinge_motion(SIDE)))
        self.assertIsNone(common_right(SQUARE, CUBE))

    def test_of_degree_six(self):
        end = [SLOW, WIDE, LEVEL]
        other = row_motion([SIDE, FAST, UP, *end])
        self.assertEqual(common_right(LONG, other), right_part(LONG, common_right(LONG, other).norm()))
        self.assertBool(True, within(row_motion(end), common_right(LONG, other)))
        self.assertEqual(row_motion(end), common_right(row_motion([UP, *end]), row_motion([BESIDE, FAST, *end])))
        self.assertEqual(LONG, common_right(LONG, LONG))

    def test_wrong_values(self):
        self.refuses_each(InvalidMotion, wrong_motions(), lambda value: common_right(value, BOTH))
        self.refuses_each(InvalidMotion, wrong_motions(), lambda value: common_right(BOTH, value))
        self.refuses(InvalidMotion, {"value": 1}, common_right, 1, 2)
        for motion in motions_not_plain():
            self.refuses(InvalidMotion, {"value": 0}, common_right, motion, 0)
            self.refuses(NotPlain, {}, common_right, motion, BOTH)
            self.refuses(NotPlain, {}, common_right, BOTH, motion)


class RightPartsTest(Case):
    def test_of_all_divisors(self):
        for motion in small_motions() + [TURN]:
            parts = self.asked(right_parts, motion=motion)
            self.assertEqual([right_part(motion, divisor) for divisor in true_divisors(motion.norm())], parts)
            self.assertEqual(motion, parts[-1])
            for part in parts:
                self.assertIsInstance(part, Motion)
                self.assertEqual([], right_divided(motion, part)[1])

    def test_how_many(self):
        self.assertEqual([TURN], right_parts(TURN))
        self.assertEqual([SQUARE], right_parts(SQUARE))
        self.assertEqual([FOURTH], right_parts(FOURTH))
        self.assertEqual(15, len(right_parts(row_motion([UP, SIDE, FAST, SLOW]))))
        self.assertEqual(4, len(right_parts(row_motion([UP, LEVEL, BESIDE, SLANT]))))

    def test_returned_lists_are_new(self):
        right_parts(BOTH).clear()
        self.assertEqual(3, len(right_parts(BOTH)))

    def test_wrong_values(self):
        self.refuses_each(InvalidMotion, wrong_motions(), right_parts)
        for motion in motions_not_plain():
            self.refuses(NotPlain, {}, right_parts, motion)
        for row in plain_rows():
            if len(row) > 4:
                self.refuses(TooMany, {"what": "degree", "limit": 8}, right_parts, row_motion(row))


class LeastOverTest(Case):
    def test_of_two_divisors(self):
        for motion in (row_motion([UP, LEVEL, SIDE]), SQUARE * BOTH):
            parts = {str(part.norm()): part for part in right_parts(motion)}
            for one in true_divisors(motion.norm()):
                for other in true_divisors(motion.norm()):
                    least = least_over(motion, one, other)
                    multiple = divided(times(one, other), common(one, other))[0]
                    self.assertEqual(parts[str(multiple)], least)
                    for part in parts.values():
                        both = is_right_part(part, parts[str(one)]) and is_right_part(part, parts[str(other)])
                        self.assertBool(both, within(least, part))

    def test_by_names_lists_tuples_and_ratios(self):
        motion = row_motion([FAST, UP, SIDE])
        self.assertEqual(BOTH, self.reckoned(least_over, motion=motion, poly=[1, 0, 1, 0], other=[4, 0, 1]))
        self.assertEqual(hinge_motion(SIDE), self.reckoned(least_over, motion=motion, poly=[4, 0, 1], other=[4, 0, 1]))

    def test_of_degree_six(self):
        one, other = made_of(*[norm_of(hinge) for hinge in (UP, SIDE, FAST)]), made_of(norm_of(FAST), norm_of(SLOW))
        multiple = made_of(one, norm_of(SLOW))
        self.assertEqual(right_part(LONG, multiple), least_over(LONG, one, other))
        self.assertEqual(LONG, least_over(LONG, LONG.norm(), LONG.norm()))

    def test_wrong_values(self):
        norm = [1, 0, 1]
        self.refuses_each(InvalidMotion, wrong_motions(), lambda value: least_over(value, norm, norm))
        refuses_divisors(self, lambda value: least_over(BOTH, value, norm), BOTH.norm())
        refuses_divisors(self, lambda value: least_over(BOTH, norm, value), BOTH.norm())
        self.refuses(InvalidMotion, {"value": 1}, least_over, 1, [], 3)
        self.refuses(InvalidDivisor, {"value": []}, least_over, BOTH, [], 3)
        self.refuses(InvalidDivisor, {"value": SQUARE_NORM}, least_over, BOTH, norm, SQUARE_NORM)
        for motion in motions_not_plain():
            self.refuses(InvalidDivisor, {"value": 3}, least_over, motion, motion.norm(), 3)
            self.refuses(NotPlain, {}, least_over, motion, motion.norm(), motion.norm())
