"""Where motions stand, and spots (points 61, 62)."""

from hingerows.eights import Eight
from hingerows.errors import InvalidMotion, InvalidNumber, InvalidPoint, NoPose
from hingerows.motions import hinge_motion
from hingerows.places import pose_at, spots_at
from hingerows.poses import led, same_pose
from hingerows.ratios import Ratio
from tests.helpers import (
    BOTH, NOUGHT, ONE, SIDE, TURN, UP, Case, alone, as_ratios, motions_not_plain, number_samples, plain_motions,
    some_points, wrong_motions, wrong_numbers, wrong_points,
)

GO = alone(Eight((-3, 0, 0, 0), (0, 1, 2, 0)))


def standing():
    """Motions and numbers at which they stand, with the worth there."""
    cases = []
    for motion in plain_motions() + motions_not_plain():
        for number in number_samples():
            worth = motion.worth(number)
            if any(part.sign != 0 for part in worth.first()):
                cases.append((motion, number, worth))
    return cases


def falling():
    """Motions and numbers at which they do not stand."""
    both = alone(-ONE, NOUGHT)
    return [
        (GO, 3), (alone(Eight((3, 0, 0, 0))), -3), (both, 1), (both, -1), (GO * TURN, 3), (BOTH * GO, Ratio(3)),
        (alone(NOUGHT, Eight((Ratio(1, 2), 0, 0, 0))), Ratio(-1, 2)), (alone(NOUGHT), 0),
    ]


class PoseAtTest(Case):
    def test_the_worth_times_a_number(self):
        for motion, number, worth in standing():
            pose = pose_at(motion, number)
            self.assertBool(True, same_pose(pose, worth))
            heads = [part for part in pose.first() if part.sign != 0]
            self.assertEqual(Ratio(1), heads[0])
            self.assertEqual(repr(pose), repr(pose_at(motion=motion, number=Ratio(1) * number)))

    def test_a_plain_motion_stands_at_each_number(self):
        for motion in plain_motions():
            for number in (0, 1, -1, Ratio(2, 3), 10 ** 6):
                self.assertTrue(pose_at(motion, number).is_pose)

    def test_at_the_edges(self):
        self.assertEqual(UP, pose_at(TURN, 0))
        self.assertEqual(Eight((1, 0, 0, -1)), self.reckoned(pose_at, motion=TURN, number=1))
        self.assertEqual(Eight((1, 0, 0, Ratio(1, 2))), pose_at(TURN, -2))
        self.assertEqual(Eight((0, 1, 0, 0), (0, 0, 0, -1)), pose_at(hinge_motion(SIDE), 0))
        self.assertEqual(ONE, pose_at(TURN * TURN.mirror(), 7))

    def test_does_not_stand(self):
        for motion, number in falling():
            self.refuses(NoPose, {}, pose_at, motion, number)
            self.refuses(NoPose, {}, spots_at, motion, (1, 2, 3), number)
            self.assertTrue(pose_at(motion, 20).is_pose)
        self.assertTrue(pose_at(alone(-ONE, NOUGHT), 0).is_pose)


class SpotsTest(Case):
    def test_where_the_worth_leads(self):
        points = some_points(4)
        for motion, number, worth in standing():
            for point in points[:2 if motion.degree > 3 else 4]:
                self.assertEqual(led(worth, point), spots_at(motion, point, number))

    def test_the_example(self):
        self.assertEqual(as_ratios((-1, 0, 0)), spots_at(TURN, (1, 0, 0), 0))
        self.assertEqual(as_ratios((0, -1, 0)), self.reckoned(spots_at, motion=TURN, point=[1, 0, 0], number=1))
        for height in (0, 7, Ratio(-1, 3)):
            for number in number_samples():
                self.assertEqual(as_ratios((0, 0, height)), spots_at(TURN, (0, 0, height), number))

    def test_far_away_near_the_point_itself(self):
        far = spots_at(BOTH, (1, 2, 3), 10 ** 6)
        for number, own in zip(far, (1, 2, 3)):
            self.assertTrue((number - own).size().is_below(Ratio(1, 1000)))

    def test_going_alone(self):
        self.assertEqual(as_ratios((2, 5, 1)), spots_at(GO, (1, 3, 1), 5))

    def test_what_is_returned(self):
        spot = spots_at(BOTH, [1, 0, 0], 2)
        self.assertIsInstance(spot, tuple)
        self.assertEqual([Ratio] * 3, [number.__class__ for number in spot])


class WrongValuesTest(Case):
    def test_wrong_values(self):
        self.refuses_each(InvalidMotion, wrong_motions(), lambda value: pose_at(value, 1))
        self.refuses_each(InvalidNumber, wrong_numbers(), lambda value: pose_at(TURN, value))
        self.refuses_each(InvalidMotion, wrong_motions(), lambda value: spots_at(value, (1, 2, 3), 1))
        self.refuses_each(InvalidPoint, wrong_points(), lambda value: spots_at(TURN, value, 1))
        self.refuses_each(InvalidNumber, wrong_numbers(), lambda value: spots_at(TURN, (1, 2, 3), value))

    def test_the_sequence_of_errors(self):
        self.refuses(InvalidMotion, {"value": 1}, pose_at, 1, "a")
        self.refuses(InvalidMotion, {"value": 1}, spots_at, 1, "a", "b")
        self.refuses(InvalidPoint, {"value": "a"}, spots_at, GO, "a", "b")
        self.refuses(InvalidPoint, {"value": (1, 2)}, spots_at, GO, (1, 2), 3)
        self.refuses(InvalidNumber, {"value": True}, spots_at, GO, (1, 2, 3), True)
        self.refuses(InvalidNumber, {"value": "3"}, pose_at, GO, "3")
