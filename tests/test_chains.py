"""Rows that close, numbers that open them, chains (points 71 to 74)."""

from itertools import combinations, permutations

from hingerows.chains import chain, chains, closes, is_opening, opens_at
from hingerows.eights import Eight
from hingerows.errors import InvalidMotion, InvalidRow, NotClosed, NotPlain, SharedEnd, TooMany
from hingerows.exchanges import exchanged
from hingerows.motions import row_motion
from hingerows.polys import told
from hingerows.poses import same_pose
from hingerows.ratios import Ratio
from hingerows.rows import row_by, rows
from tests.helpers import (
    BESIDE, FAST, LEVEL, ONE, SIDE, SLANT, SLOW, TURN, UP, WIDE, Case, motions_not_plain, norm_of, plain_rows,
    rowless_motions, strangers, wrong_motions, wrong_rows,
)

LONG = [UP, SIDE, FAST, SLOW, WIDE, LEVEL]
NEAR = Eight((0, 0, 0, -1), (0, 1, 1, 0))


def closing_rows():
    """Pairs of rows that close, by exchanges and by other sequences of their norms."""
    pairs = [(row, row) for row in plain_rows()]
    for row in plain_rows():
        pairs.extend([(row, exchanged(row, place)) for place in range(len(row) - 1)])
    motion = row_motion(LONG)
    pairs.append((LONG, row_by(motion, [norm_of(LONG[place]) for place in (5, 3, 4, 0, 2, 1)])))
    # Neither is the motion of one of these plain.
    pairs.append(([UP, UP.mirror()], [LEVEL, LEVEL.mirror()]))
    pairs.append(([SIDE, UP, UP.mirror()], [LEVEL, LEVEL.mirror(), SIDE]))
    pairs.append(([UP, UP.mirror()] * 3, [BESIDE, BESIDE.mirror()] * 3))
    return pairs


def opened_rows():
    """Pairs of rows that do not close."""
    other = UP + ONE
    pairs = [
        ([UP], [SIDE]), ([UP], [UP.mirror()]), ([UP, SIDE], [SIDE, UP]), ([UP, LEVEL], [LEVEL, UP]),
        ([UP], [UP, UP.mirror()]), ([UP], LONG), (LONG[:5], LONG), (LONG, LONG[::-1]), ([UP], [other]),
        ([SIDE], [Eight((0, 2, 0, 0), (0, 0, 0, -1))]), ([UP, NEAR], [NEAR, UP]),
    ]
    # At all numbers these stand at the pose 1.
    pairs.append(([UP, UP.mirror()], [SIDE, SIDE.mirror()]))
    pairs.append(([UP, UP.mirror()], [other, other.mirror()]))
    return pairs


def opened_late():
    """Rows whose worths are equal at 0, or at 0 and 1, though they do not close, with the first number that opens."""
    half = Ratio(1, 2)
    # Their norms have the worths 4 and 4, 4 and 3 at 0 and 1, then 2 and 3, 3 and 5; 2 and 5, 3 and 3.
    two, one = Eight((0, 2, 0, 0), (0, 0, 1, 0)), Eight((1, 1, 1, 1), (0, 1, -1, 0))
    first, second = Eight((0, 1, 1, 0)), Eight((-half, 3 * half, half, half))
    third, fourth = Eight((-1, 1, 0, 0)), Eight((half, half, 3 * half, half))
    return [
        ([two, two.mirror()], [one, one.mirror()], 1),
        ([first, first.mirror(), second, second.mirror()], [third, third.mirror(), fourth, fourth.mirror()], 2),
    ]


def all_opened():
    return opened_rows() + [(row, other) for row, other, _ in opened_late()]


def worths_are_equal(row, other, numbers):
    motion, beside = row_motion(row), row_motion(other)
    return all(motion.worth(number) == beside.worth(number) for number in numbers)


class ClosesTest(Case):
    def test_rows_of_one_motion(self):
        for row, other in closing_rows():
            self.assertEqual(row_motion(row), row_motion(other))
            self.assertBool(True, self.asked(closes, row=row, other=other))
            self.assertBool(True, closes(other, row))

    def test_rows_of_unlike_motions(self):
        for row, other in all_opened():
            self.assertBool(False, self.asked(closes, row=row, other=other))
            self.assertBool(False, closes(other, row))

    def test_as_many_worths_as_hinges_tell(self):
        numbers = [Ratio(1, 2), -3, 5, Ratio(-7, 3), 0, 11]
        for row, other in closing_rows() + all_opened():
            if len(row) == len(other):
                for start in range(2):
                    equal = worths_are_equal(row, other, (numbers[start:] + numbers[:start])[:len(row)])
                    self.assertBool(equal, closes(row, other))

    def test_wrong_rows(self):
        self.refuses_each(InvalidRow, wrong_rows(), lambda value: closes(value, [UP]))
        self.refuses_each(InvalidRow, wrong_rows(), lambda value: closes([UP], value))
        self.refuses(InvalidRow, {"value": "one"}, closes, "one", "other")


class OpensTest(Case):
    def test_rows_that_close_are_not_opened(self):
        for row, other in closing_rows():
            self.assertIsNone(self.asked(opens_at, row=row, other=other))
            for value in (0, 1, Ratio(-5, 3), 10 ** 20):
                self.assertBool(False, is_opening(row, other, value))

    def test_what_is_told_opens(self):
        for row, other in all_opened():
            found = self.asked(opens_at, row=row, other=other)
            self.assertIsInstance(found, Ratio)
            self.assertBool(True, self.asked(is_opening, row=row, other=other, value=found))
            self.assertNotEqual(row_motion(row).worth(found), row_motion(other).worth(found))

    def test_one_of_the_first_seven_numbers_opens(self):
        for row, other in all_opened():
            self.assertTrue(any(is_opening(row, other, number) for number in range(7)))

    def test_rows_that_stand_alike_are_opened_nevertheless(self):
        one, other = [UP, UP.mirror()], [SIDE, SIDE.mirror()]
        for number in (0, 1, -2, Ratio(1, 3)):
            self.assertTrue(same_pose(row_motion(one).worth(number), row_motion(other).worth(number)))
            self.assertBool(True, is_opening(one, other, number))
        self.assertBool(True, closes(one, [LEVEL, LEVEL.mirror()]))

    def test_only_some_numbers_open(self):
        for row, other, first in opened_late():
            for number in range(8):
                self.assertBool(number >= first, is_opening(row, other, number))
                self.assertBool(number >= first, is_opening(other, row, Ratio(number)))
        # The worths of t t + 1 and t t - 2 t + 2 are the same at 1/2 alone.
        one, other = [UP, UP.mirror()], [UP + ONE, UP.mirror() + ONE]
        self.assertBool(False, is_opening(one, other, Ratio(1, 2)))
        self.assertBool(True, is_opening(one, other, Ratio(3, 2)))

    def test_any_value(self):
        for value in strangers() + [[0], (0,), UP, TURN, [UP], "0", True, False]:
            self.assertBool(False, is_opening([UP], [SIDE], value))
            self.assertBool(False, is_opening([UP], [UP], value))
        for value in (0, Ratio(0), -999999, Ratio(123456, 999999), 10 ** 29):
            self.assertBool(True, is_opening([UP], [SIDE], value))

    def test_wrong_rows(self):
        for action in (opens_at, lambda row, other: is_opening(row, other, None)):
            self.refuses_each(InvalidRow, wrong_rows(), lambda value, act=action: act(value, [UP]))
            self.refuses_each(InvalidRow, wrong_rows(), lambda value, act=action: act([UP], value))
            self.refuses(InvalidRow, {"value": 1}, action, 1, 2)


class ChainTest(Case):
    def test_the_one_row_and_the_other_one_turned_about(self):
        found = 0
        for row, other in closing_rows():
            if row[0] != other[0] and row[-1] != other[-1]:
                ring = self.asked(chain, row=row, other=other)
                self.assertIsInstance(ring, list)
                self.assertEqual(row + other[::-1], ring)
                self.assertEqual(2 * len(row), len(ring))
                found += 1
        self.assertGreater(found, 4)

    def test_shared_ends(self):
        for row in plain_rows():
            self.refuses(SharedEnd, {}, chain, row, row)
        row = [UP, SIDE, FAST]
        self.refuses(SharedEnd, {}, chain, row, exchanged(row, 0))
        self.refuses(SharedEnd, {}, chain, row, exchanged(row, 1))
        self.refuses(SharedEnd, {}, chain, tuple(row), tuple(exchanged(row, 1)))
        self.refuses(SharedEnd, {}, chain, [UP, UP.mirror()], [UP, UP.mirror()])

    def test_rows_that_do_not_close(self):
        for row, other in all_opened():
            self.refuses(NotClosed, {}, chain, row, other)
        self.refuses(NotClosed, {}, chain, [UP, SIDE], [UP, LEVEL])
        self.refuses(NotClosed, {}, chain, [UP, SIDE], [LEVEL, SIDE])

    def test_wrong_rows(self):
        self.refuses_each(InvalidRow, wrong_rows(), lambda value: chain(value, [UP]))
        self.refuses_each(InvalidRow, wrong_rows(), lambda value: chain([UP], value))
        self.refuses(InvalidRow, {"value": None}, chain, None, [])

    def test_nothing_is_changed(self):
        one, other = [UP, UP.mirror()], [LEVEL, LEVEL.mirror()]
        chain(one, other).clear()
        self.assertEqual(([UP, UP.mirror()], [LEVEL, LEVEL.mirror()]), (one, other))


def told_chains(motion):
    """The pairs by the words of point 73."""
    pairs = []
    for row, other in combinations(rows(motion), 2):
        if row[0] != other[0] and row[-1] != other[-1]:
            pairs.append((row, other))
    return pairs


class ChainsTest(Case):
    def test_how_many(self):
        counts = [
            ([UP], 0), ([UP, UP], 0), ([UP, LEVEL], 0), ([UP, SIDE], 1), ([FAST, SLOW], 1), ([UP, SIDE, FAST], 9),
            ([WIDE, SLOW, SIDE], 9), ([UP, LEVEL, BESIDE], 0), ([UP, LEVEL, BESIDE, SLANT], 0),
        ]
        for row, many in counts:
            self.assertEqual(many, len(self.asked(chains, motion=row_motion(row))))
        for motion in rowless_motions():
            if motion.degree <= 4:
                self.assertEqual([], chains(motion))

    def test_four_unlike_quadratics(self):
        pairs = chains(row_motion([UP, SIDE, FAST, SLOW]))
        sequences = list(permutations(range(4)))
        apart = [1 for one, other in combinations(sequences, 2) if one[0] != other[0] and one[3] != other[3]]
        self.assertEqual(len(apart), len(pairs))

    def test_all_pairs_in_their_sequence(self):
        for row in plain_rows():
            if len(row) <= 4:
                motion = row_motion(row)
                pairs = chains(motion)
                self.assertIsInstance(pairs, list)
                self.assertEqual(told_chains(motion), pairs)
                for pair in pairs[:5]:
                    self.assertEqual((tuple, list, list), (pair.__class__, pair[0].__class__, pair[1].__class__))
                    one, other = pair
                    self.assertEqual(one + other[::-1], chain(one, other))

    def test_by_the_ends_of_the_sequences(self):
        for row in ([UP, SIDE, FAST], [UP, SIDE, LEVEL], [UP, SIDE, LEVEL, FAST]):
            found = rows(row_motion(row))
            pairs = chains(row_motion(row))
            for one, other in combinations(found, 2):
                first = norm_of(one[0]) != norm_of(other[0])
                last = norm_of(one[-1]) != norm_of(other[-1])
                self.assertEqual(first, one[0] != other[0])
                self.assertEqual(last, one[-1] != other[-1])
                self.assertEqual(first and last, (one, other) in pairs)

    def test_returned_lists_are_new(self):
        motion = row_motion([UP, SIDE, FAST])
        pairs = chains(motion)
        for place, (one, other) in enumerate(pairs):
            one.append(place)
            other.clear()
        self.assertTrue(all(one[-1] == place and len(one) == 4 for place, (one, other) in enumerate(pairs)))
        self.assertEqual(told_chains(motion), chains(motion))

    def test_what_rows_raises(self):
        self.refuses_each(InvalidMotion, wrong_motions(), chains)
        for motion in motions_not_plain():
            self.refuses(NotPlain, {}, chains, motion)
        for row in plain_rows():
            if len(row) > 4:
                self.refuses(TooMany, {"what": "degree", "limit": 8}, chains, row_motion(row))

    def test_the_norm_of_the_example(self):
        self.assertEqual(told([4, 0, 5, 0, 1]), row_motion([UP, SIDE]).norm())
        (one, other), = chains(row_motion([UP, SIDE]))
        self.assertEqual(([UP, SIDE], exchanged([UP, SIDE], 0)), (one, other))
