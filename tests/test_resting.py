"""Points that rest (point 66)."""

from hingerows.eights import Eight
from hingerows.errors import InvalidMotion, InvalidPoint
from hingerows.lines import foot_of, hinge_by, is_on, line_of, line_through
from hingerows.motions import Motion, row_motion
from hingerows.paths import path
from hingerows.polys import told
from hingerows.ratios import Ratio
from hingerows.resting import resting, rests
from hingerows.rows import rows
from tests.helpers import (
    BOTH, FAST, LEVEL, NOUGHT, ONE, SIDE, SLOW, SQUARE, TURN, UP, Case, alone, as_ratios, motions_not_plain,
    plain_motions, some_points, wrong_motions, wrong_points,
)

HERE = (1, Ratio(-2, 3), 5)
FAR_LINE = line_through(HERE, (4, 0, 0))


def through(*points):
    """Hinges about the lines from one point to others, each with other numbers."""
    return [hinge_by(line_through(HERE, point), at - 1, at + 1) for at, point in enumerate(points)]


def meeting():
    """Motions by which just one point rests, and that point."""
    pairs = [(0, 0, 0), (0, 1, 0), (1, 1, 1), (Ratio(1, 2), 7, -3), (2, 2, 2), (0, 5, Ratio(1, 7))]
    found = [(row_motion(through(*pairs[:many])), HERE) for many in range(2, 7)]
    found.append((row_motion([UP, Eight((0, 1, 0, 0)), Eight((3, 0, 2, 0))]), (0, 0, 0)))
    found.append((row_motion([UP, Eight((0, 1, 0, 0), (0, 0, 1, 0))]), (0, 0, 1)))
    return found


def turning():
    """Motions that turn about one line alone, and that line."""
    axis = hinge_by(FAR_LINE, 0, 1)
    hinges = [hinge_by(FAR_LINE, at, at * at + 1) for at in range(6)]
    found = [(row_motion(hinges[:many]), FAR_LINE) for many in range(1, 7)]
    found.append((alone(axis, NOUGHT), FAR_LINE))
    found.append((row_motion([UP, -UP.times(3)]), line_of(UP)))
    found.append((row_motion([axis, axis.mirror(), axis]), FAR_LINE))
    return found


def unresting():
    """Motions by which no point rests."""
    near, beside = Eight((0, 0, 0, 1), (0, 1, 0, 0)), Eight((2, 0, 0, 1), (0, 3, -1, 0))
    go = alone(Eight((0, 0, 0, 0), (0, 1, 0, 0)))
    return [
        row_motion([UP, near, beside]), row_motion([beside, near]), row_motion([UP, beside, near, UP]),
        BOTH, go, row_motion([UP, near]), SQUARE * TURN * SQUARE, go * TURN, row_motion([UP, near.mirror()]),
        row_motion([FAST, SLOW]), row_motion([UP, SIDE, LEVEL, FAST]), alone(Eight((1, 0, 0, 0), (0, 0, 0, 1))),
        row_motion([*through((0, 0, 0), (0, 1, 0)), hinge_by(line_through((0, 0, 9), (1, 7, 0)), 0, 1)]),
        alone(Eight((1, 0, 0, 0)), Eight((0, 0, 0, 0), (0, 2, 0, 0))),
        alone(Eight((2, 0, 0, 0), (0, 0, 1, 0)), -UP),
    ]


def all_at_rest():
    return [
        alone(Eight((3, 0, 0, 0))), alone(ONE, NOUGHT), TURN * TURN.mirror(), BOTH * BOTH.mirror(), alone(NOUGHT),
        row_motion([FAST, FAST.mirror()]), row_motion([UP, UP.mirror()] * 3),
    ]


def rests_by_path(motion, point):
    """Whether the path is the point over 1."""
    return path(motion, point) == (*[told([number]) for number in point], told([1]))


class RestsTest(Case):
    def test_as_the_path_tells(self):
        points = [HERE, (0, 0, 0), (0, 0, 7), (4, 0, 0), *some_points(3)]
        for motion in plain_motions() + motions_not_plain() + unresting() + all_at_rest():
            for point in points if motion.degree < 5 else points[:2]:
                self.assertBool(rests_by_path(motion, point), self.reckoned(rests, motion=motion, point=point))
        for motion, point in meeting():
            self.assertBool(True, rests_by_path(motion, point))
            self.assertBool(True, self.reckoned(rests, motion=motion, point=list(point)))

    def test_on_the_lines_of_all_hinges(self):
        for motion, point in meeting():
            if motion.degree <= 4 and motion.is_plain:
                for row in rows(motion):
                    self.assertTrue(all(is_on(line_of(hinge), point) for hinge in row))


class RestingTest(Case):
    def test_none(self):
        for motion in unresting():
            self.assertIsNone(self.asked(resting, motion=motion))
            for point in (HERE, (0, 0, 0), (0, 0, 1)):
                self.assertBool(False, rests(motion, point))

    def test_one_point(self):
        for motion, point in meeting():
            self.assertEqual(("point", as_ratios(point)), self.asked(resting, motion=motion))
            self.assertEqual([tuple, tuple], [resting(motion).__class__, resting(motion)[1].__class__])
            x, y, z = point
            for other in ((x + 1, y, z), (x, y + 1, z), (x, y, z + 1), (-x - 1, -y, -z)):
                self.assertBool(False, rests(motion, other))

    def test_a_line(self):
        for motion, line in turning():
            self.assertEqual(("line", line), self.asked(resting, motion=motion))
            direction, foot = line[0], foot_of(line)
            for step in (0, 1, Ratio(-5, 2)):
                self.assertBool(True, rests(motion, tuple([one + step * two for one, two in zip(foot, direction)])))
            for point in ((100, 1, 1), (0, 1, 100)):
                self.assertBool(is_on(line, point), rests(motion, point))

    def test_all(self):
        for motion in all_at_rest():
            self.assertEqual(("all",), self.asked(resting, motion=motion))
            for point in (HERE, (0, 0, 0), (7, 8, 9)):
                self.assertBool(True, rests(motion, point))

    def test_what_is_told_rests_and_nothing_else(self):
        for motion in plain_motions() + motions_not_plain():
            found = resting(motion)
            for point in [(0, 0, 0), (0, 0, 1), HERE, *some_points(3)]:
                expected = found == ("all",)
                if found is not None and found[0] == "line":
                    expected = is_on(found[1], point)
                if found is not None and found[0] == "point":
                    expected = found[1] == as_ratios(point)
                self.assertBool(expected, rests(motion, point))

    def test_of_a_hinge(self):
        for motion, line in ((TURN, line_of(UP)), (Motion([-SIDE, ONE]), line_of(SIDE))):
            self.assertEqual(("line", line), resting(motion))


class WrongValuesTest(Case):
    def test_wrong_values(self):
        self.refuses_each(InvalidMotion, wrong_motions(), lambda value: rests(value, HERE))
        self.refuses_each(InvalidMotion, wrong_motions(), resting)
        self.refuses_each(InvalidPoint, wrong_points(), lambda value: rests(TURN, value))
        self.refuses(InvalidMotion, {"value": 1}, rests, 1, 2)
