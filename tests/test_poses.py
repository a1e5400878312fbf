"""Poses (points 6, 14)."""

from hingerows.eights import Eight
from hingerows.errors import InvalidFour, InvalidPoint, InvalidPose, NotUndone
from hingerows.poses import gone, go_pose, led, same_pose, turn_pose, turned
from hingerows.ratios import Ratio
from tests.helpers import Case, some_points, some_poses, wrong_fours, wrong_points, wrong_poses

ONE = Eight((1, 0, 0, 0))
ORIGIN = (0, 0, 0)


def told(*numbers):
    return tuple([number if isinstance(number, Ratio) else Ratio(number) for number in numbers])


def dot(one, other):
    return Ratio.total([left * right for left, right in zip(one, other)])


class LeadingTest(Case):
    def test_turns_and_goes(self):
        quarter = turn_pose((1, 0, 0, 1))
        self.assertEqual(told(0, 1, 0), led(quarter, (1, 0, 0)))
        self.assertEqual(told(-1, 0, 0), led(quarter, [0, 1, 0]))
        self.assertEqual(told(0, 0, 5), led(quarter, (0, 0, 5)))
        self.assertEqual(told(Ratio(3, 2), 4, -1), led(go_pose([Ratio(1, 2), 2, -3]), (1, 2, 2)))
        self.assertEqual(told(1, 1, 0), led(pose=go_pose((1, 0, 0)) * quarter, point=(1, 0, 0)))
        self.assertEqual(told(0, 2, 0), led(quarter * go_pose((1, 0, 0)), (1, 0, 0)))

    def test_as_the_document_reckons(self):
        for pose, point in zip(some_poses(8), some_points(8)):
            first = Eight(pose.first())
            turned_eight = first * Eight((0, *point)) * first.mirror()
            gone_eight = (Eight(pose.second()) * first.mirror()).times(2)
            expected = (turned_eight + gone_eight).times(Ratio(1).over(first.norm()[0]))
            self.assertEqual(Ratio(0), expected.first()[0])
            self.assertEqual(expected.first()[1:], led(pose, point))

    def test_told_points(self):
        for pose in some_poses(4):
            for point in (led(pose, (1, 2, 3)), gone(pose)):
                self.assertIsInstance(point, tuple)
                self.assertEqual([Ratio] * 3, [number.__class__ for number in point])

    def test_one_behind_another(self):
        poses = some_poses(8)
        for first, then in zip(poses, poses[1:]):
            self.assertTrue((then * first).is_pose)
            for point in some_points(3):
                self.assertEqual(led(then, led(first, point)), led(then * first, point))
                self.assertEqual(told(*point), led(first.undone(), led(first, point)))

    def test_turned_and_gone(self):
        for pose in some_poses(8):
            rows, going = turned(pose), gone(pose)
            self.assertEqual(led(pose, ORIGIN), going)
            self.assertIsInstance(rows, list)
            self.assertEqual([tuple] * 3, [row.__class__ for row in rows])
            for point in some_points(3):
                self.assertEqual(led(pose, point), tuple([dot(row, point) + go for row, go in zip(rows, going)]))
            for at, row in enumerate(rows):
                self.assertEqual([Ratio(int(at == place)) for place in range(3)], [dot(row, other) for other in rows])

    def test_turned_is_new(self):
        pose = turn_pose((1, 0, 0, 1))
        rows = turned(pose)
        rows.clear()
        self.assertEqual([told(0, -1, 0), told(1, 0, 0), told(0, 0, 1)], turned(pose=pose))
        self.assertEqual(told(0, 0, 0), gone(pose=pose))


class MakingTest(Case):
    def test_turn_poses(self):
        self.assertEqual(Eight((0, Ratio(1, 2), 0, 3)), turn_pose(four=[0, Ratio(1, 2), 0, 3]))
        self.assertEqual(told(0, 0, 0), gone(turn_pose((1, 2, 3, 4))))
        self.refuses(NotUndone, {}, turn_pose, [0, 0, Ratio(0), 0])
        self.refuses_each(InvalidFour, wrong_fours(), turn_pose)

    def test_go_poses(self):
        self.assertEqual(Eight((1, 0, 0, 0), (0, Ratio(1, 2), -1, Ratio(1, 6))), go_pose(point=(1, -2, Ratio(1, 3))))
        self.assertEqual(ONE, go_pose(ORIGIN))
        self.assertEqual(told(1, -2, 3), gone(go_pose([1, -2, 3])))
        self.refuses_each(InvalidPoint, wrong_points(), go_pose)

    def test_the_same(self):
        for pose in some_poses(8) + [Eight((0, 0, 0, 2), (0, 1, 0, 0))]:
            for number in (1, -1, 7, Ratio(-2, 3)):
                self.assertBool(True, same_pose(pose, pose.times(number)))
                self.assertBool(True, same_pose(pose=pose.times(number), other=pose))
            moved = go_pose((0, 0, 1)) * pose
            self.assertBool(False, same_pose(pose, moved))
            self.assertBool(False, same_pose(moved, pose))

    def test_not_the_same(self):
        self.assertBool(False, same_pose(Eight((1, 0, 0, 0)), Eight((0, 1, 0, 0))))
        self.assertBool(False, same_pose(Eight((1, 1, 0, 0)), Eight((0, 1, 0, 0))))
        self.assertBool(False, same_pose(Eight((0, 1, 0, 0)), Eight((1, 1, 0, 0))))
        self.assertBool(False, same_pose(Eight((1, 1, 0, 0)), Eight((1, -1, 0, 0))))
        self.assertBool(False, same_pose(ONE, Eight((1, 0, 0, 0), (0, 1, 0, 0))))

    def test_the_same_lead_all_points_alike(self):
        poses = some_poses(6)
        spots = [ORIGIN, (1, 0, 0), (0, 1, 0), (0, 0, 1)]
        for one in poses:
            for other in poses + [one.times(-5)]:
                alike = all(led(one, spot) == led(other, spot) for spot in spots)
                self.assertBool(alike, same_pose(one, other))


class WrongValuesTest(Case):
    def test_poses(self):
        self.refuses_each(InvalidPose, wrong_poses(), turned)
        self.refuses_each(InvalidPose, wrong_poses(), gone)
        self.refuses_each(InvalidPose, wrong_poses(), lambda value: led(value, (1, 2, 3)))
        self.refuses_each(InvalidPose, wrong_poses(), lambda value: same_pose(value, ONE))
        self.refuses_each(InvalidPose, wrong_poses(), lambda value: same_pose(ONE, value))

    def test_points(self):
        self.refuses_each(InvalidPoint, wrong_points(), lambda value: led(ONE, value))

    def test_the_first_parameter_comes_first(self):
        nought = ONE - ONE
        self.refuses(InvalidPose, {"value": nought}, led, nought, "no point")
        self.refuses(InvalidPose, {"value": 3}, same_pose, 3, nought)
