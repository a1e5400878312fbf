"""Exchanges and walks (points 54, 55)."""

from itertools import product

from hingerows.eights import Eight
from hingerows.errors import InvalidPlace, InvalidRow, NotPlain
from hingerows.exchanges import exchanged, is_walk, walk
from hingerows.lines import line_of
from hingerows.motions import hinge_motion, row_motion
from hingerows.parts import right_part
from hingerows.ratios import Ratio
from hingerows.rows import row_by, rows
from tests.helpers import (
    BESIDE, FAST, LEVEL, ONE, SIDE, SLANT, SLOW, TURN, UP, WIDE, Case, norm_of, plain_rows, strangers, wrong_rows,
)

NEAR = Eight((0, 0, 0, -1), (0, 1, 1, 0))
LONG = [UP, SIDE, FAST, SLOW, WIDE, LEVEL]


def sequence_of(row):
    return [norm_of(hinge) for hinge in row]


def walked(row, places):
    for place in places:
        row = exchanged(row, place)
    return row


class ExchangedTest(Case):
    def test_the_facts(self):
        for row in plain_rows():
            for place in range(len(row) - 1):
                found = self.asked(exchanged, row=row, place=place)
                self.assertIsInstance(found, list)
                self.assertEqual(row_motion(row), row_motion(found))
                self.assertEqual((row[:place], row[place + 2:]), (found[:place], found[place + 2:]))
                norms = sequence_of(row)
                norms[place], norms[place + 1] = norms[place + 1], norms[place]
                self.assertEqual(norms, sequence_of(found))
                self.assertEqual(row, exchanged(found, place))
                two = row_motion(row[place:place + 2])
                self.assertEqual(two, row_motion(found[place:place + 2]))
                self.assertTrue(two.is_plain)
                if norms[place] == norms[place + 1]:
                    self.assertEqual(row, found)
                else:
                    last = right_part(two, norm_of(row[place]))
                    self.assertEqual(hinge_motion(found[place + 1]), last)

    def test_the_example(self):
        found = exchanged([UP, SIDE], 0)
        self.assertEqual(Eight((0, Ratio(4, 5), 0, Ratio(-3, 5))).first(), found[1].first())
        self.assertNotEqual(line_of(UP), line_of(found[1]))
        self.assertNotEqual(line_of(SIDE), line_of(found[1]))
        self.assertEqual(UP + SIDE, found[0] + found[1])
        self.assertEqual([UP, SIDE], exchanged(found, 0))

    def test_hinges_of_the_same_norm_stay(self):
        for row in ([UP, UP], [UP, LEVEL], [SLANT, BESIDE, UP], [UP, Eight((0, 0, 0, 1), (0, 3, 0, 0))]):
            for place in range(len(row) - 1):
                self.assertEqual(row, exchanged(row, place))

    def test_hinges_of_one_line(self):
        row = [UP, UP + UP + ONE]
        self.assertEqual(row[::-1], exchanged(row, 0))

    def test_conjugates_but_for_the_second_part(self):
        for row, place in (([UP, UP.mirror()], 0), ([UP, NEAR], 0), ([SIDE, NEAR, UP], 1), ([UP, NEAR, SIDE], 0)):
            self.refuses(NotPlain, {}, exchanged, row, place)
            self.refuses(NotPlain, {}, exchanged, tuple(row), place)

    def test_other_places_of_a_row_that_is_not_plain(self):
        found = exchanged([UP, NEAR, SIDE], 1)
        self.assertEqual(UP, found[0])
        self.assertEqual(row_motion([NEAR, SIDE]), row_motion(found[1:]))
        self.assertEqual([UP, NEAR, SIDE], exchanged(found, 1))

    def test_six_hinges_with_great_numbers(self):
        great, small = Ratio(-123457, 654321), Ratio(1, 999979)
        row = [Eight((Ratio(999983, 999979), great, 0, small), (0, small, 5, -great)), *LONG[:5]]
        self.assertEqual(row, exchanged(exchanged(row, 0), 0))
        self.assertEqual(row_motion(row), row_motion(exchanged(row, 0)))

    def test_nothing_is_changed(self):
        row = [UP, SIDE, LEVEL]
        exchanged(row, 1).clear()
        exchanged([UP, LEVEL], 0).clear()
        same = [UP, UP]
        exchanged(same, 0).clear()
        self.assertEqual(([UP, SIDE, LEVEL], [UP, UP]), (row, same))

    def test_wrong_places(self):
        wrongs = strangers() + [-1, 2, 3, 10 ** 20, Ratio(0), Ratio(1), Ratio(1, 2), [0], (0,), UP, TURN, "0"]
        self.refuses_each(InvalidPlace, wrongs, lambda value: exchanged([UP, SIDE, FAST], value))
        for place in (0, 1, -1, None):
            self.refuses(InvalidPlace, {"value": place}, exchanged, [UP], place)
        self.refuses(InvalidPlace, {"value": 1}, exchanged, [UP, NEAR], 1)

    def test_the_sequence_of_errors(self):
        self.refuses_each(InvalidRow, wrong_rows(), lambda value: exchanged(value, 0))
        self.refuses_each(InvalidRow, wrong_rows(), lambda value: exchanged(value, None))


class WalkTest(Case):
    def assertWalk(self, row, other):
        found = self.asked(walk, row=row, other=other)
        self.assertIsInstance(found, list)
        self.assertLessEqual(len(found), 200)
        self.assertTrue(all(place.__class__ is int and 0 <= place < len(row) - 1 for place in found))
        self.assertEqual(other, walked(row, found))
        self.assertBool(True, self.asked(is_walk, row=row, other=other, value=found))

    def test_between_all_rows_of_a_motion(self):
        for row in plain_rows():
            if len(row) <= 3:
                found = rows(row_motion(row))
                for one, other in product(found, found):
                    self.assertWalk(one, other)
        found = rows(row_motion([FAST, UP, SLOW, SIDE]))
        for other in found:
            self.assertWalk(found[5], other)
        for other in rows(row_motion([UP, SIDE, FAST, LEVEL])):
            self.assertWalk(other, [UP, SIDE, FAST, LEVEL])

    def test_of_six_hinges(self):
        motion = row_motion(LONG)
        for turned in (LONG[::-1], LONG[3:] + LONG[:3], [LONG[at] for at in (5, 1, 3, 0, 4, 2)]):
            self.assertWalk(LONG, row_by(motion, [norm_of(hinge) for hinge in turned]))

    def test_from_a_row_to_itself(self):
        for row in plain_rows():
            self.assertBool(True, self.asked(is_walk, row=row, other=row, value=[]))
            self.assertWalk(row, row)

    def test_between_rows_of_unlike_motions(self):
        unlike = [([UP], [SIDE]), ([UP, SIDE], [SIDE, UP]), ([UP], [UP, SIDE]), (LONG, LONG[:5]), ([UP], [LEVEL]),
                  ([UP, SIDE], [UP, Eight((0, 2, 0, 0), (0, 0, 0, -1))]), ([UP, LEVEL], [LEVEL, UP])]
        for one, other in unlike:
            self.assertIsNone(self.asked(walk, row=one, other=other))
            self.assertIsNone(walk(other, one))
            for value in ([], [0], [0, 0], None):
                self.assertBool(False, is_walk(one, other, value))
                self.assertBool(False, is_walk(other, one, value))


class IsWalkTest(Case):
    def test_as_the_exchanges_tell(self):
        start = [UP, SIDE, FAST]
        for many in range(4):
            for places in product(range(2), repeat=many):
                end = walked(start, places)
                for other in rows(row_motion(start)):
                    self.assertBool(other == end, is_walk(start, other, list(places)))

    def test_long_walks_and_hinges_of_the_same_norm(self):
        row = [UP, SIDE, LEVEL]
        for places in ([0] * 200, [0, 1] * 100, (1, 0) * 99, [1] * 199):
            end = walked(row, places)
            self.assertBool(True, is_walk(row, end, places))
            self.assertBool(end == row, is_walk(row, row, places))
        self.assertBool(True, is_walk([UP, LEVEL], [UP, LEVEL], [0]))

    def test_any_value(self):
        row, other = [UP, SIDE, FAST], exchanged([UP, SIDE, FAST], 0)
        self.assertBool(True, is_walk(row, other, [0]))
        for value in strangers() + [
            0, [], [1], [-1], [2], [Ratio(0)], [False], [0, 0], [0, None], ["0"], [[0]], [0, 2], {0: 0}, [0, -2], row,
            [10 ** 20, 0],
        ]:
            self.assertBool(False, is_walk(row, other, value))
        self.assertBool(False, is_walk([UP], [UP], [0]))
        self.assertBool(True, is_walk([UP], [UP], ()))

    def test_wrong_rows(self):
        for action in (walk, lambda row, other: is_walk(row, other, None)):
            self.refuses_each(InvalidRow, wrong_rows(), lambda value, act=action: act(value, [UP]))
            self.refuses_each(InvalidRow, wrong_rows(), lambda value, act=action: act([UP, NEAR], value))
            self.refuses(InvalidRow, {"value": None}, action, None, [])
            self.refuses(NotPlain, {}, action, [UP, NEAR], [UP])
            self.refuses(NotPlain, {}, action, [UP], [UP, NEAR])
            self.refuses(NotPlain, {}, action, [UP, NEAR], [UP, NEAR])
            self.refuses(NotPlain, {}, action, LONG, [UP, NEAR, SIDE])
