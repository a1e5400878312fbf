"""The between of two poses, motions through three poses (points 81, 82)."""

from itertools import combinations, permutations

from hingerows.eights import Eight
from hingerows.errors import InvalidPose, InvalidPoses, NotApart
from hingerows.lines import hinge_by, line_through
from hingerows.motions import Motion, hinge_motion, row_motion
from hingerows.poses import go_pose, same_pose, turn_pose
from hingerows.ratios import Ratio
from hingerows.rows import rows
from hingerows.through import between, is_through, three_motion
from hingerows.wholes import bound_part
from tests.helpers import (
    BOTH, FAST, LEVEL, NOUGHT, ONE, SIDE, SLOW, TURN, UP, Case, motions_not_plain, plain_motions, some_poses,
    strangers, wrong_poses,
)

POSES = some_poses(7) + [ONE, turn_pose((0, 1, 1, 1)), go_pose((1, 2, 3)), go_pose((0, 0, 4)) * turn_pose((1, 0, 0, 1))]
SCREW = go_pose((0, 0, 1)) * turn_pose((1, 0, 0, 1))
EXAMPLE = [ONE, Eight((1, 1, 0, 0), (1, -1, 0, 0)), Eight((1, 0, 1, 0), (1, 0, -1, 0))]


def apart():
    """Triples of poses that are apart."""
    found = [EXAMPLE]
    for three in combinations(POSES, 3):
        if all(between(one, other).sign != 0 for one, other in combinations(three, 2)):
            found.append(list(three))
    return found


def not_apart():
    """Triples of which two are the same, or led to one another by a turn about one line, or by going alone."""
    one, other = POSES[0], POSES[1]
    hinge = hinge_by(line_through((1, 2, 3), (0, 1, 5)), 2, 3)
    nears = [one, one.times(-3), one * hinge, one * go_pose((1, 2, 3)), go_pose((3, 0, 1)) * one, hinge * one]
    return [[one, near, other] for near in nears] + [[one, one, one], [ONE, go_pose((1, 0, 0)), SCREW]]


class BetweenTest(Case):
    def test_the_sum_of_products(self):
        for one, other in combinations(POSES, 2):
            total = Ratio(0)
            for place in range(4):
                total = total + one.first()[place] * other.second()[place] + one.second()[place] * other.first()[place]
            found = self.asked(between, pose=one, other=other)
            self.assertIsInstance(found, Ratio)
            self.assertEqual(total, found)
            self.assertEqual(total, between(other, one))

    def test_of_a_pose_and_itself(self):
        for pose in POSES:
            self.assertEqual(Ratio(0), between(pose, pose))
            self.assertEqual(Ratio(0), between(pose, pose.times(Ratio(-2, 7))))

    def test_looked_at_from_another_place(self):
        ahead, behind = POSES[2], POSES[4]
        scale = ahead.norm()[0] * behind.norm()[0]
        for one, other in combinations(POSES[:5], 2):
            moved = between(ahead * one * behind, ahead * other * behind)
            self.assertEqual(scale * between(one, other), moved)

    def test_nought_for_one_turn_and_for_going_alone(self):
        for pose in POSES[:4]:
            for hinge in (UP, SIDE, FAST, SLOW, LEVEL):
                self.assertEqual(Ratio(0), between(pose, hinge * pose))
                self.assertEqual(Ratio(0), between(pose * hinge, pose))
            self.assertEqual(Ratio(0), between(pose, go_pose((3, Ratio(1, 2), -1)) * pose))
            self.assertNotEqual(Ratio(0), between(pose, SCREW * pose))
        self.assertNotEqual(Ratio(0), between(ONE, SCREW))

    def test_wrong_poses(self):
        self.refuses_each(InvalidPose, wrong_poses(), lambda value: between(value, ONE))
        self.refuses_each(InvalidPose, wrong_poses(), lambda value: between(ONE, value))
        self.refuses(InvalidPose, {"value": NOUGHT}, between, NOUGHT, "other")
        self.refuses(InvalidPose, {"value": 1}, between, pose=ONE, other=1)


class ThreeMotionTest(Case):
    def test_stands_as_the_poses_tell(self):
        triples = apart()
        self.assertGreater(len(triples), 20)
        for poses in triples:
            motion = self.asked(three_motion, poses=poses)
            self.assertIsInstance(motion, Motion)
            self.assertEqual(2, motion.degree)
            first, second, third = poses
            self.assertTrue(same_pose(motion.worth(0) * third, first))
            self.assertTrue(same_pose(motion.worth(1) * third, second))
            self.assertBool(True, self.asked(is_through, poses=poses, value=motion))

    def test_by_the_words_of_the_point(self):
        for poses in apart()[:10]:
            a, b, c = poses
            x, y, z = between(b, c), between(a, c), between(a, b)
            for number in (0, 1, 3, Ratio(-5, 2)):
                t = Ratio(1) * number
                told = a.times(x * (1 - t)) + b.times(y * t) + c.times(z * t * (t - 1))
                self.assertEqual(told * c.times(z).undone(), three_motion(poses).worth(number))

    def test_poses_times_numbers(self):
        for poses in apart()[:8]:
            scales = (Ratio(-2, 3), 5, Ratio(1, 7))
            scaled = [pose.times(scale) for pose, scale in zip(poses, scales)]
            self.assertEqual(three_motion(poses), three_motion(scaled))
            self.assertBool(True, is_through(scaled, three_motion(poses)))

    def test_each_sequence_of_the_poses_has_its_own(self):
        for turned in permutations(EXAMPLE):
            self.assertBool(turned == tuple(EXAMPLE), is_through(turned, three_motion(EXAMPLE)))
            self.assertBool(turned == tuple(EXAMPLE), is_through(EXAMPLE, three_motion(turned)))

    def test_two_hinges_exactly_if_the_norm_falls_into_quadratics(self):
        kinds = {True: 0, False: 0}
        for poses in apart():
            motion = three_motion(poses)
            if motion.is_plain:
                falls = len(bound_part(motion.norm())) == 1
                self.assertEqual(falls, rows(motion) != [])
                kinds[falls] += 1
        self.assertTrue(kinds[False])
        # Through where two hinges lead c.
        for motion in (BOTH, row_motion([FAST, SLOW]), row_motion([UP, LEVEL])):
            poses = [motion.worth(0), motion.worth(1), ONE]
            if all(between(one, other).sign != 0 for one, other in combinations(poses, 2)):
                self.assertEqual(motion, three_motion(poses))
                behind = POSES[2]
                self.assertEqual(motion, three_motion([pose * behind for pose in poses]))
                kinds[True] += 1
        self.assertTrue(kinds[True])

    def test_not_apart(self):
        for poses in not_apart():
            for turned in permutations(poses):
                self.refuses(NotApart, {}, three_motion, list(turned))
                self.refuses(NotApart, {}, is_through, turned, None)

    def test_wrong_poses(self):
        for action in (three_motion, lambda poses: is_through(poses, None)):
            for value in strangers() + [0, ONE, BOTH, [], (), EXAMPLE[:2], EXAMPLE + [SCREW], [EXAMPLE], [None] * 4]:
                self.refuses(InvalidPoses, {"position": None}, action, value)
            for position in range(3):
                for wrong in wrong_poses():
                    poses = [*EXAMPLE[:position], wrong, *EXAMPLE[position + 1:]]
                    self.refuses(InvalidPoses, {"position": position}, action, poses)
            self.refuses(InvalidPoses, {"position": 1}, action, (ONE, NOUGHT, None))
            self.refuses(InvalidPoses, {"position": 2}, action, [ONE, ONE, 1])


class IsThroughTest(Case):
    def test_any_value(self):
        motion = three_motion(EXAMPLE)
        for value in strangers() + [0, ONE, motion.eights(), [motion], TURN, BOTH, repr(motion)]:
            self.assertBool(False, is_through(EXAMPLE, value))
        for value in plain_motions() + motions_not_plain():
            self.assertBool(False, is_through(EXAMPLE, value))
        self.assertBool(True, is_through(poses=tuple(EXAMPLE), value=Motion(motion.eights())))

    def test_the_same_poses_by_other_motions(self):
        poses = [SCREW, POSES[1] * SCREW, ONE]
        motion = three_motion(poses)
        # At 0 and 1 it stands alike, behind the motion of a number alone, but its degree is another one.
        number = Motion([ONE.times(3), ONE])
        self.assertTrue(same_pose((motion * number).worth(1) * poses[2], poses[1]))
        self.assertBool(False, is_through(poses, motion * number))
        self.assertBool(False, is_through(poses, hinge_motion(UP)))
        self.assertBool(False, is_through(poses, row_motion([SIDE, UP])))
