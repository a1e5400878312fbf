"""Ratios (points 2, 11)."""

from hingerows.errors import DividedByZero, InvalidNumber
from hingerows.ratios import Ratio, is_number
from tests.helpers import Case, fraction, number_samples, some_numbers, wrong_numbers


def as_ratio(value):
    return Ratio(value.numerator, value.denominator)


class MakingTest(Case):
    def test_lowest_terms_and_a_bottom_of_at_least_one(self):
        table = [
            ((4, 6), (2, 3)), ((4, -6), (-2, 3)), ((-4, -6), (2, 3)), ((0, 5), (0, 1)), ((0, -5), (0, 1)),
            ((7, 1), (7, 1)), ((7, -1), (-7, 1)), ((-12, 4), (-3, 1)), ((10 ** 40, 10 ** 39 * 3), (10, 3)),
            ((7,), (7, 1)), ((0,), (0, 1)),
        ]
        for parts, (top, bottom) in table:
            ratio = Ratio(*parts)
            self.assertEqual((top, bottom), (ratio.top, ratio.bottom))
            self.assertIs(int, ratio.top.__class__)
            self.assertIs(int, ratio.bottom.__class__)

    def test_by_names(self):
        self.assertEqual(Ratio(-2, 3), Ratio(bottom=-6, top=4))
        self.assertEqual(Ratio(4), Ratio(top=4))

    def test_parts_that_are_no_integers(self):
        for wrong in wrong_numbers() + [Ratio(1), Ratio(0)]:
            with self.subTest(wrong=repr(wrong)):
                self.refuses(InvalidNumber, {"value": wrong}, Ratio, wrong)
                self.refuses(InvalidNumber, {"value": wrong}, Ratio, wrong, 0)
                self.refuses(InvalidNumber, {"value": wrong}, Ratio, 1, wrong)

    def test_a_bottom_of_nought(self):
        self.refuses(InvalidNumber, {"value": 0}, Ratio, 1, 0)
        self.refuses(InvalidNumber, {"value": 0}, Ratio, top=0, bottom=0)
        self.refuses(InvalidNumber, {"value": False}, Ratio, 1, False)
        self.refuses(InvalidNumber, {"value": "a"}, Ratio, "a", "b")

    def test_sign_and_wholeness(self):
        for top, bottom, sign, whole in ((3, 2, 1, False), (-3, 2, -1, False), (0, 9, 0, True), (8, -4, -1, True)):
            ratio = Ratio(top, bottom)
            self.assertEqual(sign, ratio.sign)
            self.assertIs(int, ratio.sign.__class__)
            self.assertBool(whole, ratio.is_whole)

    def test_numbers(self):
        for value in number_samples():
            self.assertBool(True, is_number(value))
        for value in wrong_numbers():
            self.assertBool(False, is_number(value))
        self.assertBool(True, is_number(value=1))


class ReckoningTest(Case):
    def test_sums_differences_and_products(self):
        for one in number_samples() + some_numbers(12):
            for other in number_samples() + some_numbers(12, 9):
                left, right = fraction(one), fraction(other)
                ratio = Ratio(left.numerator, left.denominator)
                for result, expected in (
                    (ratio + other, left + right), (ratio - other, left - right), (ratio * other, left * right),
                ):
                    self.assertIsInstance(result, Ratio)
                    self.assertEqual(as_ratio(expected), result)

    def test_integers_on_the_left(self):
        for number in (0, 1, -4, 10 ** 20):
            for ratio in (Ratio(0), Ratio(2, 3), Ratio(-5)):
                self.assertEqual(Ratio(number) + ratio, number + ratio)
                self.assertEqual(Ratio(number) - ratio, number - ratio)
                self.assertEqual(Ratio(number) * ratio, number * ratio)
        self.assertEqual(Ratio(5, 2), 3 - Ratio(1, 2))

    def test_minus_in_front_and_size(self):
        self.assertEqual(Ratio(-3, 2), -Ratio(3, 2))
        self.assertEqual(Ratio(3, 2), -Ratio(-3, 2))
        self.assertEqual(Ratio(0), -Ratio(0))
        self.assertEqual([Ratio(3, 2), Ratio(3, 2), Ratio(0)], [Ratio(3, 2).size(), Ratio(-3, 2).size(), Ratio(0).size()])

    def test_other_values_on_the_right(self):
        half = Ratio(1, 2)
        self.refuses_each(InvalidNumber, wrong_numbers(), lambda value: half + value)
        self.refuses_each(InvalidNumber, wrong_numbers(), lambda value: half - value)
        self.refuses_each(InvalidNumber, wrong_numbers(), lambda value: half * value)
        self.refuses_each(InvalidNumber, wrong_numbers(), half.over)
        self.refuses_each(InvalidNumber, wrong_numbers(), half.is_below)
        self.refuses_each(InvalidNumber, wrong_numbers(), half.is_at_most)

    def test_divided(self):
        self.assertEqual(Ratio(3, 4), Ratio(1, 2).over(Ratio(2, 3)))
        self.assertEqual(Ratio(-1, 6), Ratio(1, 2).over(other=-3))
        self.assertEqual(Ratio(0), Ratio(0).over(-3))
        self.refuses(DividedByZero, {}, Ratio(1, 2).over, 0)
        self.refuses(DividedByZero, {}, Ratio(0).over, Ratio(0, -3))
        self.refuses(InvalidNumber, {"value": False}, Ratio(0).over, False)

    def test_below_and_at_most(self):
        for one in number_samples() + some_numbers(12):
            for other in number_samples() + some_numbers(12, 9):
                ratio = as_ratio(fraction(one))
                self.assertBool(fraction(one) < fraction(other), ratio.is_below(other))
                self.assertBool(fraction(one) <= fraction(other), ratio.is_at_most(other=other))

    def test_totals(self):
        self.assertEqual(Ratio(0), Ratio.total([]))
        self.assertEqual(Ratio(0), Ratio.total(()))
        self.assertIsInstance(Ratio.total([]), Ratio)
        self.assertIsInstance(Ratio.total([3]), Ratio)
        self.assertEqual(Ratio(3), Ratio.total((1, Ratio(1, 2), Ratio(3, 2))))
        self.assertEqual(Ratio(-1, 6), Ratio.total(numbers=[Ratio(1, 3), Ratio(-1, 2)]))

    def test_totals_of_wrong_values(self):
        wrong_lists = [wrong for wrong in wrong_numbers() if not isinstance(wrong, (list, tuple))]
        self.refuses_each(InvalidNumber, wrong_lists + [3, Ratio(3)], Ratio.total)
        for wrong in wrong_numbers():
            with self.subTest(wrong=repr(wrong)):
                self.refuses(InvalidNumber, {"value": wrong}, Ratio.total, [1, wrong, "behind"])
                self.refuses(InvalidNumber, {"value": wrong}, Ratio.total, (wrong,))


class TellingTest(Case):
    def test_equal_with_ratios_alone(self):
        self.assertBool(True, Ratio(1, 2) == Ratio(-2, -4))
        self.assertBool(False, Ratio(1, 2) == Ratio(1, 3))
        self.assertBool(False, Ratio(1, 2) == Ratio(3, 2))
        self.assertBool(True, Ratio(1, 2) != Ratio(1, 3))
        for value in wrong_numbers() + [1]:
            self.assertBool(False, Ratio(1) == value)
            self.assertBool(False, value == Ratio(1))
        self.assertBool(False, 0 == Ratio(0))

    def test_as_strings(self):
        for ratio, told, shown in (
            (Ratio(3, 2), "3/2", "Ratio(3, 2)"), (Ratio(-6, 4), "-3/2", "Ratio(-3, 2)"),
            (Ratio(4, 2), "2", "Ratio(2, 1)"), (Ratio(0, -2), "0", "Ratio(0, 1)"), (Ratio(-5), "-5", "Ratio(-5, 1)"),
        ):
            self.assertEqual((told, shown), (str(ratio), repr(ratio)))

    def test_ratios_stay_as_they_are(self):
        one, other = Ratio(2, 3), Ratio(-5, 7)
        for step in (lambda: one + other, lambda: one - other, lambda: one * other, lambda: one.over(other),
                     lambda: -one, one.size, lambda: Ratio.total([one, other])):
            self.assertEqual(step(), step())
        self.assertEqual((Ratio(2, 3), Ratio(-5, 7)), (one, other))
        with self.assertRaises(AttributeError):
            one.top = 5
