"""Lines (points 5, 6, 15, 16)."""

from fractions import Fraction

from hingerows.eights import Eight
from hingerows.errors import InvalidHinge, InvalidLine, InvalidNumber, InvalidPoint, InvalidPose, InvalidScale, SamePoint
from hingerows.lines import far, hinge_by, is_line, is_on, kind, led_line, line_of, line_through, sine, told_line
from hingerows.poses import led
from hingerows.ratios import Ratio
from tests.helpers import (
    Case, fraction, fractions, number_samples, some_hinges, some_points, some_poses, wrong_hinges, wrong_lines,
    wrong_numbers, wrong_points, wrong_poses,
)

AXIS = ((0, 0, 1), (0, 0, 0))


def told(*numbers):
    return tuple([number if isinstance(number, Ratio) else Ratio(number) for number in numbers])


def some_lines(many, seed=7):
    points = some_points(2 * many, seed)
    pairs = [(points[at], points[at + 1]) for at in range(0, 2 * many, 2)]
    return [line_through(*pair) for pair in pairs if told(*pair[0]) != told(*pair[1])]


def dot(one, other):
    return sum(left * right for left, right in zip(one, other))


def crossed(one, other):
    a, b, c = one
    p, q, r = other
    return [b * r - c * q, c * p - a * r, a * q - b * p]


def foot_of(line):
    direction, moment = fractions(line[0]), fractions(line[1])
    return [number / dot(direction, direction) for number in crossed(direction, moment)]


def nearest_squared(line, other):
    """The least square of the distance of two points, the one on the one line, the other on the other one."""
    along, beside = fractions(line[0]), fractions(other[0])
    apart = [end - start for start, end in zip(foot_of(line), foot_of(other))]
    a, b, c = dot(along, along), dot(along, beside), dot(beside, beside)
    d, e = dot(along, apart), dot(beside, apart)
    if a * c == b * b:
        step, other_step = d / a, Fraction(0)
    else:
        step, other_step = (d * c - b * e) / (a * c - b * b), (b * d - a * e) / (a * c - b * b)
    gap = [x + other_step * v - step * u for x, u, v in zip(apart, along, beside)]
    return dot(gap, gap)


class LinesTest(Case):
    def test_what_lines_are(self):
        for value in (AXIS, ([1, 0, 0], [0, Ratio(1, 2), -7]), ((1, 2, 3), [3, 0, -1]), ((0, 0, -5), (1, 1, 0))):
            self.assertBool(True, is_line(value))
        for value in wrong_lines():
            self.assertBool(False, is_line(value))
        self.assertBool(True, is_line(value=AXIS))

    def test_told_lines(self):
        self.assertEqual((told(1, Ratio(1, 2), 0), told(0, 0, Ratio(-3, 2))), told_line(line=((2, 1, 0), [0, 0, -3])))
        self.assertEqual((told(0, 1, -2), told(4, 0, 0)), told_line(([0, Ratio(-1, 2), 1], (-2, 0, 0))))
        self.assertEqual((told(0, 0, 1), told(0, 0, 0)), told_line(((0, 0, -3), (0, 0, 0))))

    def test_a_line_times_a_number_is_the_same_line(self):
        for line in some_lines(8):
            for number in (1, -1, Ratio(-2, 3), 12):
                stretched = tuple([tuple([part * number for part in point]) for point in line])
                self.assertEqual(line, told_line(stretched))
            self.assertTrue(all(isinstance(number, Ratio) for point in line for number in point))
            self.assertEqual([tuple, tuple, tuple], [line.__class__, line[0].__class__, line[1].__class__])

    def test_through_two_points(self):
        self.assertEqual((told(0, 0, 1), told(0, 0, 0)), line_through((0, 0, 0), [0, 0, 2]))
        self.assertEqual((told(0, 1, 0), told(0, 0, 1)), line_through(point=(1, 0, 0), other=(1, 1, 0)))
        points = some_points(10)
        for one, other in zip(points, points[1:]):
            line = line_through(one, other)
            self.assertEqual(line, line_through(other, one))
            self.assertBool(True, is_on(line, one))
            self.assertBool(True, is_on(line, other))
            ahead = [3 * far_one - 2 * near for near, far_one in zip(one, other)]
            self.assertEqual(line, line_through(ahead, one))

    def test_no_line_through_one_point(self):
        self.refuses(SamePoint, {}, line_through, (1, 2, 3), [1, Ratio(4, 2), 3])
        self.refuses(InvalidPoint, {"value": (1, 2)}, line_through, (1, 2), (1, 2))

    def test_points_on_a_line(self):
        bar = line_through((1, 0, 0), (1, 1, 0))
        self.assertBool(True, is_on(bar, (1, -4, 0)))
        self.assertBool(False, is_on(bar, (1, -4, Ratio(1, 1000))))
        self.assertBool(False, is_on(bar, (0, 0, 0)))
        self.assertBool(True, is_on(line=((0, -3, 0), (0, 0, -3)), point=[1, Ratio(1, 2), 0]))
        for line in some_lines(8):
            foot = [Ratio(number.numerator, number.denominator) for number in foot_of(line)]
            self.assertBool(True, is_on(line, foot))
            self.assertEqual(0, dot(fractions(foot), fractions(line[0])))

    def test_lines_of_hinges(self):
        self.assertEqual((told(0, 1, 0), told(0, 0, 1)), line_of(hinge=Eight((3, 0, 2, 0), (0, 0, 0, 2))))
        for hinge in some_hinges(10):
            self.assertEqual(told_line((hinge.first()[1:], hinge.second()[1:])), line_of(hinge))

    def test_a_hinges_line_keeps_still(self):
        for hinge in some_hinges(8):
            line = line_of(hinge)
            start = [Ratio(number.numerator, number.denominator) for number in foot_of(line)]
            points = [tuple([number + step * way for number, way in zip(start, line[0])]) for step in (0, 1, -3)]
            for number in (0, 1, Ratio(-5, 2)):
                pose = Eight((number, 0, 0, 0)) - hinge
                self.assertTrue(pose.is_pose)
                self.assertEqual(points, [led(pose, point) for point in points])

    def test_hinges_by_lines(self):
        bar = ((0, -2, 0), (0, 0, -2))
        self.assertEqual(Eight((3, 0, 2, 0), (0, 0, 0, 2)), hinge_by(bar, 3, 2))
        self.assertEqual(Eight((0, 0, Ratio(-1, 2), 0), (0, 0, 0, Ratio(-1, 2))),
                         hinge_by(line=bar, number=0, scale=Ratio(-1, 2)))
        for line in some_lines(6):
            hinge = hinge_by(line, Ratio(1, 3), -4)
            self.assertTrue(hinge.is_hinge)
            self.assertEqual(line, line_of(hinge))

    def test_led_lines(self):
        for pose in some_poses(5):
            for line in some_lines(5):
                moved = led_line(pose, line)
                foot = [Ratio(number.numerator, number.denominator) for number in foot_of(line)]
                for step in (0, 1, Ratio(-7, 2)):
                    point = [start + step * way for start, way in zip(foot, line[0])]
                    self.assertBool(True, is_on(moved, led(pose, point)))
                self.assertEqual(moved, told_line(moved))
                self.assertEqual(line, led_line(pose=pose.undone(), line=moved))


class TwoLinesTest(Case):
    def test_far_and_sine(self):
        along_x = line_through((0, 0, 0), (1, 0, 0))
        table = [
            (line_through((0, 0, 3), (0, 1, 3)), Ratio(9), Ratio(1), "apart"),
            (line_through((0, 0, 3), (1, 1, 3)), Ratio(9), Ratio(1, 2), "apart"),
            (line_through((5, 0, 0), (8, 4, 0)), Ratio(0), Ratio(16, 25), "meet"),
            (line_through((0, 3, 4), (-2, 3, 4)), Ratio(25), Ratio(0), "parallel"),
            (line_through((7, 0, 0), (2, 0, 0)), Ratio(0), Ratio(0), "one"),
        ]
        for other, apart, angle, word in table:
            for one, two in ((along_x, other), (other, along_x)):
                self.assertEqual((apart, angle, word), (far(one, two), sine(one, two), kind(one, two)))

    def test_lines_that_are_not_told(self):
        one, other = ((2, 0, 0), (0, 0, 0)), ((-3, 0, 0), (0, -6, 0))
        self.assertEqual((Ratio(4), Ratio(0), "parallel"), (far(one, other), sine(one, other), kind(one, other)))
        self.assertEqual(("one", Ratio(0)), (kind(one, ([Ratio(-1, 2), 0, 0], [0, 0, 0])), far(one, one)))
        slanted, double = ((0, 2, 2), (0, 0, 0)), ((0, -1, -1), (0, -1, 1))
        self.assertEqual((Ratio(1), "parallel"), (far(line=slanted, other=double), kind(line=slanted, other=double)))
        self.assertEqual(Ratio(1, 2), sine(line=slanted, other=((0, 0, 3), (5, 0, 0))))

    def test_far_is_the_least_distance(self):
        lines = some_lines(8)
        lines = lines + [(line[0], told(*crossed((1, 2, 5), line[0]))) for line in lines[:3]]
        for one in lines:
            for other in lines:
                apart = nearest_squared(one, other)
                self.assertEqual(apart, fraction(far(one, other)))
                along, beside = fractions(one[0]), fractions(other[0])
                cosine = dot(along, beside) ** 2 / (dot(along, along) * dot(beside, beside))
                self.assertEqual(1 - cosine, fraction(sine(one, other)))
                straight = (["one"] if apart == 0 else ["parallel"]) if cosine == 1 else ["meet", "apart"][apart > 0:]
                self.assertEqual(straight[0], kind(one, other))

    def test_meeting_lines(self):
        for point in some_points(4):
            one = line_through(point, [number + 1 for number in point])
            other = line_through(point, (point[0] + 1, point[1] - 2, point[2]))
            self.assertEqual(("meet", Ratio(0)), (kind(one, other), far(one, other)))

    def test_poses_leave_far_and_sine(self):
        lines = some_lines(4)
        for pose in some_poses(4):
            for one, other in zip(lines, lines[1:] + lines[:1]):
                moved = led_line(pose, one), led_line(pose, other)
                self.assertEqual((far(one, other), sine(one, other), kind(one, other)),
                                 (far(*moved), sine(*moved), kind(*moved)))


class WrongValuesTest(Case):
    def test_lines(self):
        wrongs = wrong_lines()
        self.refuses_each(InvalidLine, wrongs, told_line)
        self.refuses_each(InvalidLine, wrongs, lambda value: is_on(value, (0, 0, 0)))
        self.refuses_each(InvalidLine, wrongs, lambda value: hinge_by(value, 0, 1))
        self.refuses_each(InvalidLine, wrongs, lambda value: led_line(Eight((1, 0, 0, 0)), value))
        for action in (far, sine, kind):
            self.refuses_each(InvalidLine, wrongs, lambda value, act=action: act(value, AXIS))
            self.refuses_each(InvalidLine, wrongs, lambda value, act=action: act(AXIS, value))

    def test_points(self):
        self.refuses_each(InvalidPoint, wrong_points(), lambda value: line_through(value, (0, 0, 1)))
        self.refuses_each(InvalidPoint, wrong_points(), lambda value: line_through((0, 0, 1), value))
        self.refuses_each(InvalidPoint, wrong_points(), lambda value: is_on(AXIS, value))

    def test_poses_and_hinges(self):
        self.refuses_each(InvalidPose, wrong_poses(), lambda value: led_line(value, AXIS))
        self.refuses_each(InvalidHinge, wrong_hinges(), line_of)

    def test_numbers_and_scales(self):
        self.refuses_each(InvalidNumber, wrong_numbers(), lambda value: hinge_by(AXIS, value, 1))
        self.refuses_each(InvalidScale, wrong_numbers() + [0, Ratio(0, 5)], lambda value: hinge_by(AXIS, 1, value))
        for number in number_samples():
            self.assertEqual(number + Ratio(0), hinge_by(AXIS, number, 1).first()[0])

    def test_the_first_parameter_comes_first(self):
        self.refuses(InvalidLine, {"value": 1}, hinge_by, 1, None, 0)
        self.refuses(InvalidNumber, {"value": None}, hinge_by, AXIS, None, 0)
        self.refuses(InvalidPose, {"value": 1}, led_line, 1, 2)
        self.refuses(InvalidLine, {"value": 1}, is_on, 1, 2)
