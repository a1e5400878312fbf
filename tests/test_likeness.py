"""Motions alike, eights that go along (points 85, 86)."""

from hingerows.changes import led_motion, led_row
from hingerows.eights import Eight
from hingerows.errors import InvalidMotion
from hingerows.likeness import alike, frames, is_alike
from hingerows.lines import hinge_by, line_of, line_through
from hingerows.motions import Motion, hinge_motion, row_motion
from hingerows.poses import go_pose, same_pose, turn_pose
from hingerows.ratios import Ratio
from tests.helpers import (
    BOTH, FAST, FOURTH, LEVEL, NOUGHT, ONE, SIDE, SLANT, SLOW, SQUARE, TURN, UP, WIDE, Case, alone,
    fractions, motions_not_plain, plain_motions, plain_rows, some_poses, strangers, wrong_motions, wrong_poses,
)

GO = Eight((1, 0, 0, 0), (1, 0, 0, 0))


def hinges_about(*lines):
    return [hinge_by(line, at - 1, at + 2) for at, line in enumerate(lines)]


def upright(x, y):
    return line_through((x, y, 0), (x, y, 1))


def leads(pose, motion, other):
    """Whether the pose times each eight of the one motion is the other one's eight times the pose."""
    pairs = zip(motion.eights(), other.eights())
    return motion.degree == other.degree and all(pose * one == two * pose for one, two in pairs)


def rank(rows):
    """How many of the rows of numbers are free of one another, by elimination over Python's own fractions."""
    rows, found = [list(row) for row in rows], 0
    for column in range(8):
        filled = [row for row in rows if row[column] != 0]
        if filled:
            head = filled[0]
            rows = [row for row in rows if row is not head]
            rows = [[one - row[column] / head[column] * two for one, two in zip(row, head)] for row in rows]
            found += 1
    return found


def told_frames(motion):
    """8 less the rank of the straight equations B c = c B."""
    units = [Eight([int(at == place) for at in range(4)], [int(at + 4 == place) for at in range(4)])
             for place in range(8)]
    columns = []
    for unit in units:
        numbers = []
        for eight in motion.eights():
            difference = unit * eight - eight * unit
            numbers.extend(fractions(difference.first()) + fractions(difference.second()))
        columns.append(numbers)
    return 8 - rank(zip(*columns))


class AlikeTest(Case):
    def assertAlike(self, motion, other):
        found = self.asked(alike, motion=motion, other=other)
        self.assertIsInstance(found, Eight)
        self.assertBool(True, found.is_pose)
        self.assertTrue(leads(found, motion, other))
        self.assertEqual(other, led_motion(motion, found))
        self.assertBool(True, self.asked(is_alike, motion=motion, other=other, value=found))
        return found

    def test_led_motions(self):
        for motion in plain_motions() + motions_not_plain():
            for pose in some_poses(2) + [ONE]:
                self.assertAlike(motion, led_motion(motion, pose))
                self.assertAlike(led_motion(motion, pose), motion)

    def test_only_one_pose_where_few_eights_go_along(self):
        for motion in (BOTH, row_motion([FAST, SLOW, WIDE]), SQUARE * BOTH):
            for pose in some_poses(4):
                self.assertEqual(2, frames(motion))
                self.assertTrue(same_pose(pose, alike(motion, led_motion(motion, pose))))

    def test_hinges_of_one_norm(self):
        for one in (UP, LEVEL, SLANT):
            for other in (UP, LEVEL, SLANT, UP.mirror()):
                self.assertAlike(hinge_motion(one), hinge_motion(other))

    def test_a_solution_that_is_no_pose_at_first(self):
        # These lead the motion, too: a pose times 1 + e, which is none, and one without a first part.
        pose = go_pose((1, 2, 3)) * turn_pose((1, 2, 0, 1))
        moved = led_motion(BOTH, pose)
        other = pose * GO
        self.assertTrue(leads(other, BOTH, moved))
        self.assertBool(False, other.is_pose)
        self.assertBool(False, is_alike(BOTH, moved, other))
        bare = pose * Eight((0, 0, 0, 0), (1, 0, 0, 0))
        self.assertTrue(leads(bare, BOTH, moved))
        self.assertBool(False, is_alike(BOTH, moved, bare))
        self.assertAlike(BOTH, moved)
        # Of hinges about one line there are many more solutions, few of them poses.
        row = hinges_about(upright(1, 2), upright(1, 2))
        for pose in some_poses(5):
            self.assertAlike(row_motion(row), led_motion(row_motion(row), pose))

    def test_motions_that_go_alone(self):
        one, other = alone(Eight((0, 0, 0, 0), (0, 1, 2, 2))), alone(Eight((0, 0, 0, 0), (0, 0, 0, 3)))
        self.assertAlike(one, other)
        self.assertIsNone(alike(one, alone(Eight((0, 0, 0, 0), (0, 0, 0, 2)))))
        self.assertIsNone(alike(one, alone(NOUGHT)))
        self.assertIsNone(alike(alone(NOUGHT), one))

    def test_only_solutions_without_a_first_part(self):
        # e times anything leads the one to the other, but no pose does.
        one, other = alone(NOUGHT), alone(Eight((0, 0, 0, 0), (0, 1, 0, 0)))
        bare = Eight((0, 0, 0, 0), (0, 0, 1, 0))
        self.assertTrue(leads(bare, one, other))
        self.assertIsNone(self.asked(alike, motion=one, other=other))
        self.assertBool(False, is_alike(one, other, bare))

    def test_unlike_motions(self):
        near = Eight((0, 2, 0, 0), (0, 0, 0, -3))
        pairs = [
            (TURN, hinge_motion(SIDE)), (TURN, BOTH), (BOTH, TURN), (SQUARE, BOTH),
            (BOTH, row_motion([UP, near])), (row_motion([UP, LEVEL]), row_motion([UP, UP])),
            (TURN, hinge_motion(UP + ONE)), (FOURTH, SQUARE * SQUARE),
        ]
        for one, other in pairs:
            self.assertIsNone(self.asked(alike, motion=one, other=other))
            for value in some_poses(2) + [ONE]:
                self.assertBool(False, is_alike(one, other, value))

    def test_unlike_degrees_with_the_same_eights_ahead(self):
        one, other = Motion([UP, ONE]), Motion([UP, ONE, ONE])
        self.assertIsNone(alike(one, other))
        self.assertIsNone(alike(other, one))
        self.assertBool(False, is_alike(one, other, ONE))
        self.assertBool(False, is_alike(other, one, ONE))

    def test_the_same_row_turned_about(self):
        # Half turns lead the one to the other.
        self.assertAlike(BOTH, BOTH.mirror())
        self.assertAlike(BOTH, row_motion([SIDE, UP]))
        self.assertIsNone(alike(BOTH, row_motion([UP, FAST])))

    def test_of_the_highest_degree(self):
        long = row_motion([UP, SIDE, FAST, SLOW, WIDE, LEVEL])
        for pose in some_poses(2):
            self.assertAlike(long, led_motion(long, pose))
        self.assertIsNone(alike(long, row_motion([UP, SIDE, FAST, SLOW, LEVEL, WIDE])))

    def test_great_numbers(self):
        great = Ratio(-999983, 999979)
        pose = go_pose((great, 123457, Ratio(1, 654321))) * turn_pose((great, 1, Ratio(777777, 11), 5))
        for motion in (TURN, BOTH, row_motion([FAST, SLOW, WIDE, SIDE])):
            self.assertAlike(motion, led_motion(motion, pose))

    def test_wrong_values(self):
        self.refuses_each(InvalidMotion, wrong_motions(), lambda value: alike(value, TURN))
        self.refuses_each(InvalidMotion, wrong_motions(), lambda value: alike(TURN, value))
        self.refuses(InvalidMotion, {"value": 1}, alike, 1, 2)
        self.refuses(InvalidMotion, {"value": 2}, alike, other=2, motion=TURN)


class IsAlikeTest(Case):
    def test_poses_of_all_kinds(self):
        for motion in (TURN, BOTH, SQUARE * TURN, row_motion([UP, LEVEL, SLANT])):
            for pose in some_poses(3):
                moved = led_motion(motion, pose)
                for value in some_poses(3) + [ONE, UP]:
                    self.assertBool(leads(value, motion, moved), is_alike(motion, moved, value))
                self.assertBool(True, is_alike(motion, moved, pose.times(Ratio(-7, 3))))
        self.assertBool(True, is_alike(TURN, TURN, UP))
        self.assertBool(True, is_alike(TURN, TURN, UP + ONE.times(5)))
        self.assertBool(False, is_alike(TURN, TURN, SIDE))

    def test_any_value(self):
        for value in wrong_poses() + strangers() + [TURN, [ONE], ONE.first()]:
            self.assertBool(False, is_alike(TURN, TURN, value))
        self.assertBool(False, is_alike(TURN, BOTH, ONE))
        self.assertBool(False, is_alike(BOTH, TURN, ONE))
        self.assertBool(True, is_alike(value=ONE, motion=BOTH, other=Motion(BOTH.eights())))

    def test_wrong_values(self):
        self.refuses_each(InvalidMotion, wrong_motions(), lambda value: is_alike(value, TURN, ONE))
        self.refuses_each(InvalidMotion, wrong_motions(), lambda value: is_alike(TURN, value, ONE))
        self.refuses(InvalidMotion, {"value": None}, is_alike, None, None, None)


class FramesTest(Case):
    def test_by_elimination(self):
        for motion in plain_motions() + motions_not_plain():
            found = self.asked(frames, motion=motion)
            self.assertEqual((int, told_frames(motion)), (found.__class__, found))

    def test_four_three_and_two(self):
        one, beside, slant = upright(0, 0), upright(1, 2), line_through((1, 1, 0), (2, 5, 1))
        crossing = line_through((0, 0, 4), (1, 1, 1))
        for lines, expected in (
            ([one], 4), ([slant], 4), ([one, one], 4), ([slant] * 6, 4), ([one, beside], 3), ([one, one, beside], 3),
            ([beside, one, upright(3, 3), one], 3), ([one, slant], 2), ([one, crossing], 2), ([one, beside, slant], 2),
            ([one, beside, slant, one, beside, crossing], 2),
        ):
            motion = row_motion(hinges_about(*lines))
            self.assertBool(True, motion.is_plain)
            self.assertEqual(expected, frames(motion))
            for pose in some_poses(2):
                self.assertEqual(expected, frames(led_motion(motion, pose)))

    def test_of_rows_by_their_lines(self):
        for row in plain_rows():
            lines = [line_of(hinge) for hinge in row]
            expected = 2
            if all(line[0] == lines[0][0] for line in lines):
                expected = 4 if all(line == lines[0] for line in lines) else 3
            self.assertEqual(expected, frames(row_motion(row)))
            self.assertEqual(expected, frames(row_motion(led_row(row, some_poses(1)[0]))))

    def test_numbers_and_going_alone(self):
        self.assertEqual(8, frames(alone(ONE.times(3))))
        self.assertEqual(8, frames(TURN * TURN.mirror()))
        self.assertEqual(6, frames(alone(Eight((0, 0, 0, 0), (0, 1, 2, 3)))))

    def test_wrong_values(self):
        self.refuses_each(InvalidMotion, wrong_motions(), frames)
