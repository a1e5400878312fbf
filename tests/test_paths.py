"""Paths of points, what falls out, points on a path (points 63, 64, 65)."""

from hingerows.eights import Eight
from hingerows.errors import InvalidMotion, InvalidPoint
from hingerows.lines import foot_of, is_on, line_of
from hingerows.motions import row_motion
from hingerows.parts import right_part
from hingerows.paths import fallen, is_on_path, path, path_degree
from hingerows.places import spots_at
from hingerows.polys import common, divided, told, worth
from hingerows.ratios import Ratio
from hingerows.wholes import quadratics
from tests.helpers import (
    BOTH, FAST, LEVEL, NOUGHT, ONE, SIDE, SLOW, SQUARE, TURN, UP, WIDE, Case, alone, as_ratios, made_of,
    motions_not_plain, norm_of, number_samples, plain_motions, plain_rows, some_points, wrong_motions, wrong_points,
)

LONG = row_motion([UP, SIDE, FAST, SLOW, WIDE, LEVEL])
GO = alone(Eight((-3, 0, 0, 0), (0, 1, 2, 0)))


def points_on(hinge):
    """Three points of the hinge's line."""
    foot, direction = foot_of(line_of(hinge)), line_of(hinge)[0]
    return [tuple([one + step * two for one, two in zip(foot, direction)]) for step in (0, 1, Ratio(-7, 3))]


def cases():
    """Motions and points: such that lie on the line of a last hinge, and others."""
    found = []
    for row in plain_rows():
        for point in (points_on(row[-1])[1], points_on(row[0])[0], (1, -2, Ratio(1, 3))):
            found.append((row_motion(row), point))
    for at, motion in enumerate(plain_motions() + motions_not_plain()):
        found.append((motion, some_points(40)[at]))
    return found


class PathTest(Case):
    def test_the_worths_are_the_spots(self):
        for motion, point in cases():
            *tops, bottom = path(motion, point)
            self.assertEqual(Ratio(1), bottom[-1])
            tried = 0
            for number in (0, 1, -1, 2, Ratio(-1, 3), Ratio(7, 2), 50):
                if any(part.sign != 0 for part in motion.worth(number).first()):
                    under = worth(bottom, number)
                    spot = tuple([worth(top, number).over(under) for top in tops])
                    self.assertEqual(spots_at(motion, point, number), spot)
                    tried += 1
            self.assertGreater(tried, 4)

    def test_the_facts(self):
        for motion, point in cases():
            *tops, bottom = path(motion, point)
            self.assertEqual([], divided(motion.norm(), bottom)[1])
            shared = bottom
            for top, number in zip(tops, point):
                shared = common(shared, top)
                self.assertLessEqual(len(top), len(bottom))
                head = top[-1] if len(top) == len(bottom) else Ratio(0)
                self.assertEqual(Ratio(1) * number, head)
            self.assertEqual(told([1]), shared)
            self.assertEqual((len(bottom) - 1, int), (path_degree(motion, point), path_degree(motion, point).__class__))
            self.assertEqual(motion.norm(), made_of(fallen(motion, point), bottom))

    def test_what_is_returned(self):
        for motion, point in cases():
            found = path(motion, point)
            self.assertIsInstance(found, tuple)
            for poly in found:
                self.assertIsInstance(poly, list)
                self.assertEqual(told(poly), poly)
        found = path(TURN, (1, 0, 0))
        found[0].clear()
        found[2].append(1)
        self.assertEqual(tuple(map(told, ([-1, 0, 1], [0, -2], [], [1, 0, 1]))), path(TURN, (1, 0, 0)))

    def test_the_example(self):
        expected = tuple(map(told, ([-1, 0, 1], [0, -2], [], [1, 0, 1])))
        self.assertEqual(expected, self.reckoned(path, motion=TURN, point=[1, 0, 0]))

    def test_points_that_rest(self):
        for motion, point in ((TURN, (0, 0, 7)), (TURN * TURN.mirror(), (1, 2, 3)), (alone(ONE, NOUGHT), (1, 2, 3))):
            expected = (*[told([number]) for number in point], told([1]))
            self.assertEqual(expected, self.reckoned(path, motion=motion, point=point))
            self.assertEqual((0, motion.norm()), (path_degree(motion, point), fallen(motion, point)))

    def test_going_alone(self):
        expected = tuple(map(told, ([-1, 1], [-5, 3], [-3, 1], [-3, 1])))
        self.assertEqual(expected, path(GO, (1, 3, 1)))
        self.assertEqual(told([-3, 1]), self.reckoned(fallen, motion=GO, point=[1, 3, 1]))
        self.assertEqual(1, self.reckoned(path_degree, motion=GO, point=(1, 3, 1)))


class FallenTest(Case):
    def test_on_the_line_of_the_last_hinge(self):
        for row in plain_rows():
            for point in points_on(row[-1]):
                if len(row) > 1:
                    self.assertEqual(path(row_motion(row[:-1]), point), path(row_motion(row), point))
                self.assertEqual([], divided(fallen(row_motion(row), point), norm_of(row[-1]))[1])

    def test_a_quadratic_falls_out_exactly_on_the_line_of_its_hinge(self):
        for motion in plain_motions():
            if motion.degree > 4:
                continue
            for quadratic, often in quadratics(motion.norm()):
                if often == 1:
                    eights = right_part(motion, quadratic).eights()
                    line = line_of(-eights[0])
                    for point in [*points_on(-eights[0]), (0, 0, 0), (1, 2, 3), (Ratio(1, 2), 0, -5)]:
                        out = divided(fallen(motion, point), quadratic)[1] == []
                        self.assertBool(is_on(line, point), out)

    def test_of_other_rows_of_the_same_motion(self):
        found = [motion for motion in plain_motions() if motion.degree == 2 and motion != SQUARE]
        for motion in found:
            self.assertEqual(told([1]), fallen(motion, (12, 13, 17)))
        turning = row_motion([UP, SIDE, FAST])
        self.assertEqual(told(norm_of(FAST)), fallen(turning, points_on(FAST)[2]))
        self.assertEqual(4, path_degree(turning, points_on(FAST)[2]))
        self.assertEqual(6, path_degree(turning, (1, 2, 3)))

    def test_great_numbers_and_degree_six(self):
        point = (Ratio(999983, 999979), -123457, Ratio(1, 654321))
        self.assertEqual(12, path_degree(LONG, point))
        self.assertEqual(10, path_degree(LONG, points_on(LEVEL)[2]))


class OnPathTest(Case):
    def test_spots_are_on_the_path(self):
        for motion, point in cases():
            for number in (0, -1, Ratio(2, 3)):
                if any(part.sign != 0 for part in motion.worth(number).first()):
                    spot = spots_at(motion, point, number)
                    self.assertBool(True, is_on_path(motion, point, spot))
                    off = (spot[0], spot[1] + 1000, spot[2] - Ratio(1, 7))
                    self.assertBool(False, is_on_path(motion, point, off))

    def test_the_point_itself(self):
        for motion, point in cases():
            self.assertBool(True, is_on_path(motion, point, list(point)))
        for number in number_samples():
            self.assertNotEqual(Ratio(1), spots_at(TURN, (1, 0, 0), number)[0])
        self.assertBool(True, self.reckoned(is_on_path, motion=TURN, point=[1, 0, 0], other=(1, 0, 0)))
        self.assertBool(True, self.reckoned(is_on_path, motion=TURN, point=[1, 0, 0], other=[0, -1, 0]))
        self.assertBool(False, self.reckoned(is_on_path, motion=TURN, point=[1, 0, 0], other=[0, -1, 1]))

    def test_at_a_root_that_is_no_fraction(self):
        square = alone(-UP, NOUGHT)
        self.assertEqual(as_ratios((Ratio(3, 5), Ratio(-4, 5), 0)), spots_at(TURN, (1, 0, 0), 2))
        self.assertBool(True, is_on_path(square, (1, 0, 0), (Ratio(3, 5), Ratio(-4, 5), 0)))
        self.assertBool(False, is_on_path(square, (1, 0, 0), (Ratio(3, 5), Ratio(4, 5), 0)))
        self.assertBool(True, is_on_path(TURN, (1, 0, 0), (Ratio(3, 5), Ratio(4, 5), 0)))

    def test_no_common_root_of_all_three(self):
        self.assertBool(False, is_on_path(TURN, (1, 0, 0), (2, 0, 0)))
        self.assertBool(False, is_on_path(TURN, (1, 0, 0), (0, 2, 0)))
        self.assertBool(False, is_on_path(TURN, (1, 0, 0), (0, 0, 0)))
        self.assertBool(False, is_on_path(TURN, (0, 0, 7), (0, 0, 8)))
        self.assertBool(True, is_on_path(TURN, (0, 0, 7), (0, 0, 7)))

    def test_of_degree_six(self):
        spot = spots_at(LONG, (1, 2, 3), Ratio(5, 4))
        self.assertBool(True, is_on_path(LONG, (1, 2, 3), spot))
        self.assertBool(False, is_on_path(LONG, (1, 2, 3), (spot[1], spot[0], spot[2])))
        deep = alone(-UP, NOUGHT, NOUGHT, NOUGHT, NOUGHT, NOUGHT)
        self.assertBool(True, is_on_path(deep, (1, 0, 0), (Ratio(3, 5), Ratio(-4, 5), 0)))
        self.assertBool(False, is_on_path(deep, (1, 0, 0), (Ratio(3, 5), Ratio(4, 5), 0)))


class WrongValuesTest(Case):
    def test_wrong_values(self):
        for action in (path, path_degree, fallen, lambda motion, point: is_on_path(motion, point, (0, 0, 0))):
            self.refuses_each(InvalidMotion, wrong_motions(), lambda value, act=action: act(value, (1, 2, 3)))
            self.refuses_each(InvalidPoint, wrong_points(), lambda value, act=action: act(BOTH, value))
            self.refuses(InvalidMotion, {"value": "a"}, action, "a", "b")
        self.refuses_each(InvalidPoint, wrong_points(), lambda value: is_on_path(BOTH, (1, 2, 3), value))
        self.refuses(InvalidPoint, {"value": "b"}, is_on_path, BOTH, "b", "c")
        self.refuses(InvalidMotion, {"value": "a"}, is_on_path, "a", "b", "c")
