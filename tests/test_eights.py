"""Eights (points 5, 6, 13)."""

from hingerows.eights import Eight
from hingerows.errors import InvalidEight, InvalidFour, InvalidNumber, NotUndone
from hingerows.fours import norm_four, times_fours
from hingerows.ratios import Ratio
from tests.helpers import (
    Case, number_samples, some_eights, some_hinges, some_poses, wrong_eights, wrong_fours, wrong_hinges,
    wrong_numbers, wrong_poses,
)

ONE = Eight((1, 0, 0, 0))
NOUGHT = Eight((0, 0, 0, 0))


def sum_fours(one, other):
    return tuple([left + right for left, right in zip(one, other)])


class MakingTest(Case):
    def test_parts_are_told_fours(self):
        eight = Eight([1, Ratio(4, 2), 0, -3], (Ratio(1, 2), 0, 0, 5))
        self.assertEqual((Ratio(1), Ratio(2), Ratio(0), Ratio(-3)), eight.first())
        self.assertEqual((Ratio(1, 2), Ratio(0), Ratio(0), Ratio(5)), eight.second())
        self.assertEqual(tuple([Ratio(0)] * 4), Eight((1, 0, 0, 0)).second())
        for part in (eight.first(), eight.second()):
            self.assertIsInstance(part, tuple)
            self.assertTrue(all(isinstance(number, Ratio) for number in part))

    def test_by_names(self):
        self.assertEqual(Eight((1, 2, 3, 4), (5, 6, 7, 8)), Eight(second=[5, 6, 7, 8], first=[1, 2, 3, 4]))

    def test_copies_what_it_is_given(self):
        first, second = [1, 2, 3, 4], [5, 6, 7, 8]
        eight = Eight(first, second)
        first[0], second[0] = 9, 9
        self.assertEqual(Eight((1, 2, 3, 4), (5, 6, 7, 8)), eight)

    def test_wrong_fours(self):
        self.refuses_each(InvalidFour, wrong_fours(), Eight)
        self.refuses_each(InvalidFour, wrong_fours(), lambda value: Eight((1, 0, 0, 0), value))
        self.refuses(InvalidFour, {"value": [1]}, Eight, [1], [2])
        self.refuses(InvalidFour, {"value": None}, Eight, (1, 2, 3, 4), None)

    def test_poses(self):
        for pose in some_poses(10) + [ONE, Eight((1, 2, 0, 0), (-2, 1, 0, 5)), Eight((0, 0, 0, Ratio(1, 9)))]:
            self.assertBool(True, pose.is_pose)
        for value in wrong_poses():
            if isinstance(value, Eight):
                self.assertBool(False, value.is_pose)

    def test_hinges(self):
        for hinge in some_hinges(10) + [Eight((7, 0, 1, 0), (0, 3, 0, Ratio(1, 2))), Eight((0, 0, 0, -1))]:
            self.assertBool(True, hinge.is_hinge)
        for value in wrong_hinges():
            if isinstance(value, Eight):
                self.assertBool(False, value.is_hinge)


class ReckoningTest(Case):
    def test_products(self):
        for one, other in zip(some_eights(15, 1), some_eights(15, 2)):
            product = one * other
            self.assertEqual(times_fours(one.first(), other.first()), product.first())
            ahead = times_fours(one.first(), other.second())
            behind = times_fours(one.second(), other.first())
            self.assertEqual(sum_fours(ahead, behind), product.second())

    def test_e_times_e_is_nought(self):
        e = Eight((0, 0, 0, 0), (1, 0, 0, 0))
        i = Eight((0, 1, 0, 0))
        self.assertEqual(NOUGHT, e * e)
        self.assertEqual(e * i, i * e)

    def test_sums_differences_and_contraries(self):
        for one, other in zip(some_eights(15, 1), some_eights(15, 2)):
            total = one + other
            self.assertEqual(sum_fours(one.first(), other.first()), total.first())
            self.assertEqual(sum_fours(one.second(), other.second()), total.second())
            self.assertEqual(one, total - other)
            self.assertEqual(NOUGHT, one + (-one))
            self.assertEqual(one - other, -(other - one))

    def test_times_a_number(self):
        for eight in some_eights(4):
            for number in number_samples():
                made = eight.times(number)
                self.assertEqual(tuple([part * number for part in eight.first()]), made.first())
                self.assertEqual(tuple([part * number for part in eight.second()]), made.second())
        self.assertEqual(Eight((2, 0, 0, 0), (0, 0, 0, 1)), Eight((4, 0, 0, 0), (0, 0, 0, 2)).times(number=Ratio(1, 2)))

    def test_conjugates(self):
        self.assertEqual(Eight((1, -2, -3, -4), (5, -6, -7, -8)), Eight((1, 2, 3, 4), (5, 6, 7, 8)).mirror())
        for one, other in zip(some_eights(10, 1), some_eights(10, 2)):
            self.assertEqual(one, one.mirror().mirror())
            self.assertEqual((one * other).mirror(), other.mirror() * one.mirror())

    def test_norms(self):
        self.assertEqual((Ratio(30), Ratio(140)), Eight((1, 2, 3, 4), (5, 6, 7, 8)).norm())
        self.assertEqual((Ratio(0), Ratio(0)), Eight((0, 0, 0, 0), (1, 2, 3, 4)).norm())
        for one, other in zip(some_eights(10, 1), some_eights(10, 2)):
            plain, second = one.norm()
            self.assertIsInstance(one.norm(), tuple)
            self.assertEqual(norm_four(one.first()), plain)
            self.assertEqual(Eight((plain, 0, 0, 0), (second, 0, 0, 0)), one * one.mirror())
            self.assertEqual(one * one.mirror(), one.mirror() * one)
            beside, along = other.norm()
            self.assertEqual((plain * beside, plain * along + second * beside), (one * other).norm())

    def test_undone(self):
        for eight in some_eights(15, 3) + some_poses(5):
            self.assertEqual((ONE, ONE), (eight * eight.undone(), eight.undone() * eight))
        for second in ((0, 0, 0, 0), (1, 2, 3, 4)):
            self.refuses(NotUndone, {}, Eight((0, 0, 0, 0), second).undone)

    def test_wrong_values(self):
        some = Eight((1, 2, 3, 4), (5, 6, 7, 8))
        self.refuses_each(InvalidEight, wrong_eights(), lambda value: some + value)
        self.refuses_each(InvalidEight, wrong_eights(), lambda value: some - value)
        self.refuses_each(InvalidEight, wrong_eights(), lambda value: some * value)
        self.refuses_each(InvalidNumber, wrong_numbers(), some.times)
        self.assertEqual(Eight((1, 2, 3, 4), (5, 6, 7, 8)), some)


class TellingTest(Case):
    def test_equal_with_eights_of_the_same_fours(self):
        some = Eight((1, 2, 3, 4), (5, 6, 7, 8))
        self.assertBool(True, some == Eight([Ratio(1), 2, Ratio(6, 2), 4], [5, 6, 7, 8]))
        self.assertBool(False, some == Eight((1, 2, 3, 4), (5, 6, 7, 9)))
        self.assertBool(False, some == Eight((0, 2, 3, 4), (5, 6, 7, 8)))
        self.assertBool(True, some != Eight((0, 2, 3, 4), (5, 6, 7, 8)))
        for value in wrong_eights() + [some.first(), (some.first(), some.second())]:
            self.assertBool(False, some == value)
            self.assertBool(False, value == some)

    def test_as_a_string(self):
        self.assertEqual("Eight((0, 1, 0, -3/2), (0, 0, 2, 0))", repr(Eight((0, 1, 0, Ratio(-3, 2)), (0, 0, 2, 0))))
        self.assertEqual("Eight((1, 0, 0, 0), (0, 0, 0, 0))", repr(ONE))
