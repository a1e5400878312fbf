"""Motions told by other numbers, led motions and rows (points 83, 84)."""

from hingerows.changes import changed, led_motion, led_row
from hingerows.eights import Eight
from hingerows.errors import InvalidMotion, InvalidPose, InvalidRow, InvalidTable, NotUndone
from hingerows.lines import led_line, line_of
from hingerows.motions import Motion, hinge_motion, row_motion
from hingerows.polys import plus, scaled, times, told
from hingerows.poses import go_pose, same_pose
from hingerows.ratios import Ratio
from hingerows.rows import row_count
from tests.helpers import (
    BOTH, FAST, LEVEL, NOUGHT, ONE, SIDE, SLOW, SQUARE, TURN, UP, WIDE, Case, alone, motions_not_plain,
    plain_motions, plain_rows, rowless_motions, some_poses, strangers, wrong_motions, wrong_numbers, wrong_poses,
    wrong_rows,
)

HALF = Ratio(1, 2)
TABLES = [
    ((1, 0), (0, 1)), ((1, 1), (0, 2)), ((0, 1), (1, 0)), ((2, -3), (HALF, 5)), ((0, 3), (-2, 7)), ((4, 0), (1, -1)),
    ((Ratio(-2, 3), 1), (0, HALF)), ((5, 2), (3, 0)), ((-1, 0), (0, -1)),
]
NEAR = Eight((0, 0, 0, -1), (0, 1, 1, 0))


def back_table(table):
    """The table whose change takes that of this one back."""
    (p, q), (r, s) = table
    return ((s, Ratio(-1) * q), (Ratio(-1) * r, p))


def joined(table, other):
    """The table of the change by the first one and then by the other one."""
    (a, b), (c, d) = table
    (p, q), (r, s) = other
    return ((Ratio(1) * a * p + b * r, Ratio(1) * a * q + b * s), (Ratio(1) * c * p + d * r, Ratio(1) * c * q + d * s))


def summed_worth(motion, table, number):
    """The worth at the number of the sum of c (p t + q)^k (r t + s)^(n - k)."""
    (p, q), (r, s) = table
    over, under = Ratio(1) * p * number + q, Ratio(1) * r * number + s
    total = NOUGHT
    for place, eight in enumerate(motion.eights()):
        for _ in range(place):
            eight = eight.times(over)
        for _ in range(motion.degree - place):
            eight = eight.times(under)
        total = total + eight
    return total


def head_of(motion, table):
    (p, _), (r, _) = table
    return summed_worth(motion, ((p, 0), (r, 0)), 1)


def changed_norm(norm, table):
    """The norm changed likewise, its head made 1."""
    (p, q), (r, s) = table
    total = []
    for place, number in enumerate(norm):
        part = [number]
        for _ in range(place):
            part = times(part, [q, p])
        for _ in range(len(norm) - 1 - place):
            part = times(part, [s, r])
        total = plus(total, part)
    return scaled(total, Ratio(1).over(total[-1]))


class ChangedTest(Case):
    def test_by_the_words_of_the_point(self):
        for motion in plain_motions():
            for table in TABLES:
                found = changed(motion, table)
                self.assertIsInstance(found, Motion)
                self.assertEqual(motion.degree, found.degree)
                head = head_of(motion, table)
                for number in (0, 1, Ratio(-7, 3)):
                    self.assertEqual(summed_worth(motion, table, number), found.worth(number) * head)

    def test_lists_tuples_and_names(self):
        for motion in (TURN, BOTH, SQUARE):
            for table in TABLES:
                self.reckoned(changed, motion=motion, table=[list(numbers) for numbers in table])
        self.assertEqual(hinge_motion(-UP), changed(table=[(0, 1), [1, 0]], motion=TURN))

    def test_stands_where_the_motion_stands(self):
        for motion in (BOTH, row_motion([FAST, SLOW, WIDE]), SQUARE * TURN):
            for table in TABLES:
                (p, q), (r, s) = table
                found, head = changed(motion, table), head_of(motion, table)
                for number in (0, 2, Ratio(-5, 7)):
                    under = Ratio(1) * r * number + s
                    if under.sign != 0:
                        there = (Ratio(1) * p * number + q).over(under)
                        self.assertTrue(same_pose(motion.worth(there), found.worth(number) * head))

    def test_and_back(self):
        for motion in plain_motions():
            for table in TABLES:
                self.assertEqual(motion, changed(changed(motion, table), back_table(table)))

    def test_two_changes_are_one(self):
        for motion in (BOTH, SQUARE, row_motion([UP, SIDE, FAST])):
            for table in TABLES:
                for other in TABLES:
                    self.assertEqual(changed(motion, joined(table, other)), changed(changed(motion, table), other))

    def test_the_norm_is_changed_likewise(self):
        for motion in plain_motions():
            for table in TABLES:
                self.assertEqual(changed_norm(motion.norm(), table), changed(motion, table).norm())

    def test_of_a_row_it_is_a_row_again(self):
        for row in plain_rows():
            if len(row) <= 4:
                motion = row_motion(row)
                for table in TABLES[:4]:
                    self.assertEqual(row_count(motion), row_count(changed(motion, table)))
        for motion in rowless_motions():
            if motion.degree <= 4:
                self.assertEqual(0, row_count(changed(motion, TABLES[3])))

    def test_tables_with_noughts(self):
        self.assertEqual(TURN, changed(TURN, ((1, 0), (0, 1))))
        self.assertEqual(TURN, changed(TURN, ((-3, 0), (0, -3))))
        self.assertEqual(hinge_motion(-UP), changed(TURN, ((0, 1), (1, 0))))
        self.assertEqual(hinge_motion(UP.times(HALF)), changed(TURN, ((2, 0), (0, 1))))
        self.assertEqual(hinge_motion(UP - ONE), changed(TURN, ((1, 1), (0, 1))))

    def test_motions_that_are_not_plain(self):
        for motion in motions_not_plain():
            for table in TABLES:
                head = head_of(motion, table)
                if all(number.sign == 0 for number in head.first()):
                    self.refuses(NotUndone, {}, changed, motion, table)
                else:
                    found = changed(motion, table)
                    self.assertEqual(summed_worth(motion, table, 4), found.worth(4) * head)

    def test_heads_without_a_first_part(self):
        go = alone(Eight((0, 0, 0, 0), (0, 1, 0, 0)))
        number = alone(ONE.times(-2))
        for motion, table in (
            (go, ((0, 1), (1, 0))), (go, ((0, 1), (5, 3))), (go * BOTH, ((0, 2), (1, 1))), (number, ((2, 1), (1, 3))),
            (number * TURN, ((4, 1), (2, 0))), (alone(NOUGHT), ((0, 1), (1, 0))),
        ):
            self.refuses(NotUndone, {}, changed, motion, table)
        self.assertEqual(1, changed(go, ((1, 1), (1, 0))).degree)
        self.assertEqual(number, changed(number, ((1, 0), (0, 1))))

    def test_wrong_values(self):
        good = ((1, 0), (0, 1))
        self.refuses_each(InvalidMotion, wrong_motions(), lambda value: changed(value, good))
        self.refuses(InvalidMotion, {"value": 1}, changed, 1, 2)
        self.refuses_each(InvalidTable, wrong_tables(), lambda value: changed(TURN, value))
        for table in wrong_tables()[:5]:
            self.refuses(InvalidTable, {"value": table}, changed, alone(NOUGHT), table)


def wrong_tables():
    lengths = [[], (), [1, 0, 0, 1], [(1, 0)], [(1, 0), (0, 1), (0, 0)], [(1, 0), (0,)], [(1, 0, 0), (0, 1)], [(), ()]]
    flat = [((1, 1), (1, 1)), ((0, 0), (0, 0)), [[2, 4], [1, 2]], ((HALF, 1), (1, 2)), ((0, 1), (0, 5)),
            ((0, 0), (1, 2)), ((Ratio(1), 1), (1, 1)), ((1, Ratio(2)), (Ratio(3), 6))]
    inside = []
    for wrong in wrong_numbers():
        inside.extend([((wrong, 0), (0, 1)), [[1, wrong], [0, 1]], ((1, 0), (wrong, 1)), [(1, 0), (0, wrong)]])
    rows = [(wrong, (0, 1)) for wrong in strangers()] + [[(1, 0), wrong] for wrong in strangers()]
    return strangers() + [0, 1, UP, TURN, "1,0;0,1"] + lengths + flat + inside + rows


class LedMotionTest(Case):
    def test_by_the_words_of_the_point(self):
        for motion in plain_motions() + motions_not_plain():
            for pose in some_poses(3):
                found = self.asked(led_motion, motion=motion, pose=pose)
                self.assertIsInstance(found, Motion)
                self.assertEqual(motion.norm(), found.norm())
                for one, other in zip(motion.eights(), found.eights()):
                    self.assertEqual(pose * one, other * pose)

    def test_one_pose_behind_another_one(self):
        first, second = some_poses(4)[2:]
        for motion in (BOTH, SQUARE, row_motion([FAST, SLOW, WIDE])):
            self.assertEqual(led_motion(led_motion(motion, second), first), led_motion(motion, first * second))
            self.assertEqual(motion, led_motion(led_motion(motion, first), first.undone()))
            self.assertEqual(led_motion(motion, first), led_motion(motion, first.times(-5)))
            self.assertEqual(motion, led_motion(motion, ONE))

    def test_by_the_pose_of_going(self):
        self.assertEqual(hinge_motion(Eight((0, 0, 0, 1), (0, 3, -2, 0))), led_motion(TURN, go_pose((2, 3, 9))))
        self.assertEqual(told([1, 0, 1]), led_motion(TURN, go_pose((2, 3, 9))).norm())

    def test_wrong_values(self):
        self.refuses_each(InvalidMotion, wrong_motions(), lambda value: led_motion(value, ONE))
        self.refuses_each(InvalidPose, wrong_poses(), lambda value: led_motion(TURN, value))
        self.refuses(InvalidMotion, {"value": 1}, led_motion, 1, 2)
        self.refuses(InvalidPose, {"value": NOUGHT}, led_motion, motion=TURN, pose=NOUGHT)


class LedRowTest(Case):
    def test_the_row_of_the_led_motion(self):
        for row in plain_rows() + [[UP, NEAR], [UP, UP.mirror()]]:
            for pose in some_poses(3):
                found = self.asked(led_row, row=row, pose=pose)
                self.assertIsInstance(found, list)
                self.assertEqual(led_motion(row_motion(row), pose), row_motion(found))
                for hinge, other in zip(row, found):
                    self.assertEqual(led_line(pose, line_of(hinge)), line_of(other))
                    self.assertEqual(pose * hinge, other * pose)

    def test_nothing_is_changed(self):
        row = [UP, SIDE, LEVEL]
        led_row(row, ONE).clear()
        self.assertEqual([UP, SIDE, LEVEL], row)
        self.assertEqual(row, led_row(row, ONE.times(3)))

    def test_wrong_values(self):
        self.refuses_each(InvalidRow, wrong_rows(), lambda value: led_row(value, ONE))
        self.refuses_each(InvalidPose, wrong_poses(), lambda value: led_row([UP], value))
        self.refuses(InvalidRow, {"value": []}, led_row, [], 2)
        self.refuses(InvalidPose, {"value": 2}, led_row, row=(UP,), pose=2)
