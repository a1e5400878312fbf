"""Fours and points (points 5, 12)."""

from hingerows.errors import InvalidFour, InvalidPoint, NotUndone
from hingerows.fours import is_four, is_point, norm_four, times_fours, told_point, undone_four
from hingerows.ratios import Ratio
from tests.helpers import Case, fraction, fractions, some_numbers, wrong_fours, wrong_points

ONE = (Ratio(1), Ratio(0), Ratio(0), Ratio(0))


def some_fours(many, seed):
    numbers = some_numbers(4 * many, seed)
    return [tuple(numbers[4 * at:4 * at + 4]) for at in range(many)] + [[0, 0, 0, 0], (10 ** 6, 0, Ratio(-1, 7), 0)]


def matrix(four):
    """The table by which a four multiplies fours at its right: i i = j j = k k = -1, i j = k, j k = i, k i = j."""
    a, b, c, d = fractions(four)
    return [[a, -b, -c, -d], [b, a, -d, c], [c, d, a, -b], [d, -c, b, a]]


def mirror(four):
    return (four[0], *[-1 * number for number in four[1:]])


class FoursTest(Case):
    def test_what_fours_and_points_are(self):
        for value in ([1, 2, 3, 4], (0, 0, 0, 0), (Ratio(1, 2), -1, 0, Ratio(7)), [10 ** 20] * 4):
            self.assertBool(True, is_four(value))
            self.assertBool(False, is_point(value))
            self.assertBool(True, is_point(value[1:]))
            self.assertBool(False, is_four(value[1:]))
        for value in wrong_fours():
            self.assertBool(False, is_four(value))
        for value in wrong_points():
            self.assertBool(False, is_point(value))
        self.assertBool(True, is_four(value=(0, 0, 0, 1)))
        self.assertBool(True, is_point(value=[0, 0, 1]))

    def test_the_units(self):
        one, i, j, k = (1, 0, 0, 0), (0, 1, 0, 0), (0, 0, 1, 0), (0, 0, 0, 1)
        table = [(i, j, k), (j, k, i), (k, i, j)]
        for left, right, product in table:
            self.assertEqual(tuple(map(Ratio, product)), times_fours(left, right))
            self.assertEqual(tuple(map(Ratio, mirror(product))), times_fours(right, left))
            self.assertEqual(tuple(map(Ratio, (-1, 0, 0, 0))), times_fours(left, left))
            self.assertEqual(tuple(map(Ratio, left)), times_fours(one, left))
            self.assertEqual(tuple(map(Ratio, left)), times_fours(left, one))

    def test_products(self):
        for one, other in zip(some_fours(20, 1), some_fours(20, 2)):
            numbers = fractions(other)
            expected = [sum(entry * number for entry, number in zip(row, numbers)) for row in matrix(one)]
            product = times_fours(four=one, other=other)
            self.assertIsInstance(product, tuple)
            self.assertTrue(all(isinstance(number, Ratio) for number in product))
            self.assertEqual(expected, fractions(product))

    def test_norms(self):
        self.assertEqual(Ratio(0), norm_four([0, 0, 0, 0]))
        for four in some_fours(20, 3):
            norm = norm_four(four=four)
            self.assertEqual(sum(number * number for number in fractions(four)), fraction(norm))
            self.assertEqual((norm, *ONE[1:]), times_fours(four, mirror(four)))
            self.assertEqual((norm, *ONE[1:]), times_fours(mirror(four), four))

    def test_norms_and_conjugates_of_products(self):
        for one, other in zip(some_fours(20, 4), some_fours(20, 5)):
            self.assertEqual(norm_four(one) * norm_four(other), norm_four(times_fours(one, other)))
            self.assertEqual(mirror(times_fours(one, other)), times_fours(mirror(other), mirror(one)))

    def test_undone(self):
        for four in some_fours(20, 6):
            if fractions(four) == [0, 0, 0, 0]:
                self.refuses(NotUndone, {}, undone_four, four)
                continue
            back = undone_four(four=four)
            self.assertEqual((ONE, ONE), (times_fours(four, back), times_fours(back, four)))
            self.assertTrue(all(isinstance(number, Ratio) for number in back))
            self.assertIsInstance(back, tuple)
        self.refuses(NotUndone, {}, undone_four, (0, Ratio(0), 0, Ratio(0, -1)))

    def test_wrong_values(self):
        good = (1, 2, 3, 4)
        self.refuses_each(InvalidFour, wrong_fours(), norm_four)
        self.refuses_each(InvalidFour, wrong_fours(), undone_four)
        self.refuses_each(InvalidFour, wrong_fours(), lambda value: times_fours(value, good))
        self.refuses_each(InvalidFour, wrong_fours(), lambda value: times_fours(good, value))
        self.refuses(InvalidFour, {"value": [1]}, times_fours, [1], "behind")
        self.refuses_each(InvalidPoint, wrong_points(), told_point)

    def test_arguments_stay(self):
        one, other = [1, Ratio(2), 3, 4], [5, 6, Ratio(7, 2), 8]
        times_fours(one, other)
        undone_four(one)
        self.assertEqual(([1, Ratio(2), 3, 4], [5, 6, Ratio(7, 2), 8]), (one, other))
