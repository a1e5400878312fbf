"""Rows of a motion, one for each sequence (points 51, 52)."""

from math import factorial

from hingerows.eights import Eight
from hingerows.errors import InvalidMotion, InvalidSequence, NotPlain, TooMany
from hingerows.motions import Motion, hinge_motion, row_motion
from hingerows.parts import quotient, right_part
from hingerows.polys import told
from hingerows.ratios import Ratio
from hingerows.rows import a_row, is_row_of, row_by, row_count, rows
from hingerows.sequences import sequences
from tests.helpers import (
    BESIDE, BOTH, CUBE, FAST, LEVEL, NOUGHT, ONE, SIDE, SLANT, SLOW, SQUARE, SQUARE_NORM, THIRD, TURN, UP, WIDE, Case,
    alone, made_of, motions_not_plain, norm_of, plain_rows, rowless_motions, strangers, wrong_motions, wrong_polys,
    wrong_rows,
)

LONG = [UP, SIDE, FAST, SLOW, WIDE, LEVEL]


def small_rows():
    return [row for row in plain_rows() if len(row) <= 4]


def sequence_of(row):
    return [norm_of(hinge) for hinge in row]


class RowsTest(Case):
    def test_one_for_each_sequence(self):
        for row in small_rows():
            motion = row_motion(row)
            wanted = sequences(motion.norm())
            found = self.asked(rows, motion=motion)
            self.assertEqual(wanted, [sequence_of(one) for one in found])
            self.assertEqual([[row_by(motion, one)] for one in wanted], [[one] for one in found])
            self.assertEqual((len(found), int), (row_count(motion=motion), row_count(motion).__class__))
            self.assertEqual(len(found), len({repr(one) for one in found}))
            self.assertIn(row, found)
            for one in found:
                self.assertEqual(motion, row_motion(one))
                self.assertBool(True, self.asked(is_row_of, motion=motion, value=one))

    def test_how_many(self):
        table = [
            ([UP], 1), ([UP, SIDE], 2), ([UP, LEVEL], 1), ([UP, SIDE, FAST], 6), ([UP, SIDE, LEVEL], 3),
            ([FAST, SIDE, UP, SLOW], factorial(4)), ([UP, LEVEL, BESIDE, SLANT], 1), ([UP, SIDE, FAST, LEVEL], 12),
            ([UP, SIDE, LEVEL, Eight((0, 0, 2, 0))], 6),
        ]
        for row, many in table:
            self.assertBool(True, row_motion(row).is_plain)
            self.assertEqual((many, many), (row_count(row_motion(row)), len(rows(row_motion(row)))))

    def test_a_row(self):
        for row in small_rows():
            found = self.asked(a_row, motion=row_motion(row))
            self.assertIsInstance(found, list)
            self.assertEqual(row_motion(row), row_motion(found))
            self.assertEqual(found, a_row(row_motion(row)))

    def test_motions_without_rows(self):
        for motion in rowless_motions():
            if motion.degree < 5:
                self.assertEqual(([], None, 0), (rows(motion), a_row(motion), row_count(motion)))

    def test_a_square_that_falls(self):
        motion = alone(Eight((0, 2, 0, 0), (0, 0, 0, 3)), NOUGHT)
        self.assertEqual(2, row_count(motion))
        for row in rows(motion):
            self.assertEqual(motion, row_motion(row))
        self.assertEqual(told([2, 2, 1]), sequences(motion.norm())[1][0])

    def test_great_numbers(self):
        great, small = Ratio(-123457, 654321), Ratio(1, 999979)
        row = [Eight((Ratio(999983, 999979), great, 0, small), (0, small, 5, -great)), SIDE]
        row.append(Eight((great, 1, small, 0), (0, small, -1, 999999)))
        for found in rows(row_motion(row)):
            self.assertEqual(row_motion(row), row_motion(found))
        self.assertEqual(6, row_count(row_motion(row)))

    def test_returned_lists_are_new(self):
        found = rows(BOTH)
        found[0].clear()
        found.clear()
        a_row(BOTH).clear()
        row_by(BOTH, [[1, 0, 1], [4, 0, 1]]).clear()
        self.assertEqual([UP, SIDE], rows(BOTH)[0])

    def test_wrong_values(self):
        for action in (a_row, rows, row_count):
            self.refuses_each(InvalidMotion, wrong_motions(), action)
            for motion in motions_not_plain():
                self.refuses(NotPlain, {}, action, motion)
            for motion in (row_motion(LONG), row_motion(LONG[:5]), SQUARE * CUBE, SQUARE * THIRD * BOTH):
                self.refuses(TooMany, {"what": "degree", "limit": 8}, action, motion)


class RowByTest(Case):
    def test_the_row_itself(self):
        for row in plain_rows():
            self.assertEqual(row, self.reckoned(row_by, motion=row_motion(row), sequence=sequence_of(row)))

    def test_all_others_of_six_hinges(self):
        motion = row_motion(LONG)
        for shift in range(1, 6):
            wanted = [norm_of(hinge) for hinge in LONG[shift:] + LONG[:shift]][::(-1) ** shift]
            found = row_by(motion, wanted)
            self.assertEqual(wanted, sequence_of(found))
            self.assertEqual(motion, row_motion(found))

    def test_the_last_hinge_is_the_right_part(self):
        for row in small_rows():
            motion = row_motion(row)
            for sequence in sequences(motion.norm()):
                found = row_by(motion, sequence)
                last = right_part(motion, sequence[-1])
                self.assertEqual(last, hinge_motion(found[-1]))
                if len(row) > 1:
                    self.assertEqual(found[:-1], row_by(quotient(motion, last), sequence[:-1]))

    def test_lists_tuples_ratios_and_noughts_at_the_end(self):
        for sequence in ([[1, 0, 1], [4, 0, 1]], ([1, 0, 1, 0], (4, Ratio(0), Ratio(1))), ((1, 0, 1), [4, 0, 1, 0, 0])):
            self.assertEqual([UP, SIDE], row_by(BOTH, sequence))
        self.assertEqual([UP, SIDE], row_by(sequence=[[1, 0, 1], [4, 0, 1]], motion=BOTH))

    def test_wrong_sequences(self):
        wrongs = strangers() + wrong_polys() + [
            0, UP, BOTH, [], (), [[1, 0, 1]], [[4, 0, 5, 0, 1]], [[1, 0, 1], [4, 0, 1], [1]], [[1], [4, 0, 5, 0, 1]],
            [[1, 0, 1], [1, 0, 1]], [[4, 0, 1], [4, 0, 1]], [[2, 0, 2], [2, 0, Ratio(1, 2)]], "ab", {0: 1, 1: 2},
            [[-1, 0, -1], [-4, 0, -1]], [[1, 0, 1], None], [None, [4, 0, 1]], [[1, 0, 1], [4, 0, True]],
            [[1, 0, 1], [4, 0, 1], [1, 0, 1]], [[1, 0, 1] + [0] * 23, [4, 0, 1]], [UP, SIDE], [[0, 1], [4, 0, 1, 1]],
        ]
        self.refuses_each(InvalidSequence, wrongs, lambda value: row_by(BOTH, value))
        square = alone(NOUGHT, NOUGHT)
        for sequence in ([[0, 0, 1], [0, 0, 1]], [[0, 1], [0, 0, 0, 1]]):
            self.refuses(InvalidSequence, {"value": sequence}, row_by, square, sequence)
        self.refuses(InvalidSequence, {"value": [SQUARE_NORM]}, row_by, SQUARE, [SQUARE_NORM])
        self.refuses(InvalidSequence, {"value": [[1, 0, 1], [1, 0, 1]]}, row_by, SQUARE, [[1, 0, 1], [1, 0, 1]])

    def test_the_sequence_of_errors(self):
        self.refuses_each(InvalidMotion, wrong_motions(), lambda value: row_by(value, [[1, 0, 1]]))
        self.refuses(InvalidMotion, {"value": 1}, row_by, 1, 2)
        for motion in motions_not_plain():
            self.refuses(InvalidSequence, {"value": None}, row_by, motion, None)
        turned = TURN * TURN.mirror()
        self.refuses(NotPlain, {}, row_by, turned, [[1, 0, 1], [1, 0, 1]])
        self.refuses(NotPlain, {}, row_by, row_motion([UP, UP.mirror()] * 3), [[1, 0, 1]] * 6)


class IsRowOfTest(Case):
    def test_rows_and_others(self):
        for row in plain_rows():
            motion = row_motion(row)
            self.assertBool(True, self.asked(is_row_of, motion=motion, value=row))
            self.assertBool(False, is_row_of(motion, row[:-1] + [FAST + ONE]))
            self.assertBool(False, is_row_of(motion, row[1:]))
            self.assertBool(False, is_row_of(motion, [*row, UP]))
        self.assertBool(False, is_row_of(BOTH, [SIDE, UP]))

    def test_of_motions_that_are_not_plain(self):
        turned = TURN * TURN.mirror()
        for hinge in (UP, LEVEL, BESIDE, SLANT):
            self.assertBool(True, is_row_of(turned, [hinge, hinge.mirror()]))
        self.assertBool(False, is_row_of(turned, [UP, UP]))
        self.assertBool(False, is_row_of(Motion([NOUGHT, ONE]), [UP]))

    def test_any_value(self):
        for value in wrong_rows() + [[UP, SIDE, None], {0: UP, 1: SIDE}, [[UP, SIDE]], (UP, None), BOTH, None]:
            self.assertBool(False, is_row_of(BOTH, value))
        for value in (None, [], [UP], [SQUARE_NORM]):
            self.assertBool(False, is_row_of(SQUARE, value))
        self.refuses_each(InvalidMotion, wrong_motions(), lambda value: is_row_of(value, [UP]))

    def test_facts_of_the_norm(self):
        for row in plain_rows():
            self.assertEqual(made_of(*sequence_of(row)), row_motion(row).norm())
