"""Polynomials (points 21, 22)."""

from hingerows.errors import InvalidNumber, InvalidPoly, NoughtPoly, TooMany
from hingerows.polys import common, degree, derived, divided, is_poly, minus, plus, scaled, times, told, worth
from hingerows.ratios import Ratio
from tests.helpers import Case, fraction, number_samples, some_numbers, wrong_numbers, wrong_polys


def some_polys(many, seed=1):
    """Polynomials of lengths 0 to 7, some of them with noughts at their end."""
    numbers = some_numbers(8 * many, seed)
    polys = [numbers[8 * at:8 * at + at % 8] for at in range(many)]
    return [poly + [0, Ratio(0)] if at % 3 == 0 else tuple(poly) for at, poly in enumerate(polys)]


def at(poly, number):
    """The polynomial's worth at a number, power by power."""
    return sum(fraction(one) * fraction(number) ** place for place, one in enumerate(poly))


def ratios(*numbers):
    return [Ratio(number) if isinstance(number, int) else number for number in numbers]


class PolysTest(Case):
    def assertTold(self, poly):
        self.assertIsInstance(poly, list)
        self.assertTrue(all(isinstance(number, Ratio) for number in poly))
        self.assertFalse(poly and poly[-1] == Ratio(0))

    def assertMade(self, poly, expected):
        """The told polynomial has the expected worth, told of a number, at more numbers than its degree can be."""
        self.assertTold(poly)
        for number in [*range(-15, 15), Ratio(2, 7)]:
            self.assertEqual(expected(number), at(poly, number))

    def test_what_polynomials_are(self):
        for value in ([], (), [0], [0] * 25, (1,) * 25, [1, Ratio(-1, 2), 0]):
            self.assertBool(True, is_poly(value))
        for value in wrong_polys():
            self.assertBool(False, is_poly(value))
        self.assertBool(True, is_poly(value=[]))

    def test_told_and_degree(self):
        table = [
            ([], [], -1), ((0, Ratio(0), 0), [], -1), ([5], ratios(5), 0), ((0, 0, 3, 0), ratios(0, 0, 3), 2),
            ([1, Ratio(4, 2), 0, 0], ratios(1, 2), 1), ([0] * 24 + [7], ratios(*[0] * 24, 7), 24), ([0] * 25, [], -1),
        ]
        for poly, form, place in table:
            self.assertEqual(form, told(poly=poly))
            self.assertTold(told(poly))
            self.assertEqual(place, degree(poly=poly))
            self.assertIs(int, degree(poly).__class__)

    def test_returned_lists_are_new(self):
        poly = [Ratio(1), Ratio(2)]
        for made in (told(poly), plus(poly, []), minus(poly, []), scaled(poly, 1), divided(poly, [1])[0],
                     divided(poly, [0, 0, 1])[1], common([], [Ratio(1, 2), 1]), times(poly, [1])):
            made.append(5)
            made[0] = 7
        self.assertEqual([Ratio(1), Ratio(2)], poly)

    def test_sums_differences_and_products(self):
        for one, other in zip(some_polys(24), some_polys(24, 2)[::-1]):
            self.assertMade(plus(poly=one, other=other), lambda number: at(one, number) + at(other, number))
            self.assertMade(minus(poly=one, other=other), lambda number: at(one, number) - at(other, number))
            self.assertMade(times(poly=one, other=other), lambda number: at(one, number) * at(other, number))
            self.assertEqual([], minus(one, one))

    def test_heads_that_vanish(self):
        self.assertEqual(ratios(3), plus([1, 2, 3], (2, -2, -3)))
        self.assertEqual([], plus([], ()))
        self.assertEqual([], times([], [1, 2]))
        self.assertEqual([], times([0, 0], [1, 2]))

    def test_scaled_derived_and_worth(self):
        for poly in some_polys(16):
            for number in number_samples():
                self.assertMade(scaled(poly=poly, number=number), lambda place: at(poly, place) * fraction(number))
                self.assertEqual(at(poly, number), fraction(worth(poly=poly, number=number)))
                self.assertIsInstance(worth(poly, number), Ratio)
            expected = [Ratio(1) * number * place for place, number in enumerate(poly)][1:]
            self.assertEqual(told(expected), derived(poly=poly))
            self.assertTold(derived(poly))
        self.assertEqual([[], [], []], [derived([]), derived([5]), derived([5, 0, 0])])
        self.assertEqual(ratios(2, 6), derived([1, 2, 3, 0]))

    def test_derived_products(self):
        for one, other in zip(some_polys(16), some_polys(16, 5)):
            expected = plus(times(derived(one), other), times(one, derived(other)))
            self.assertEqual(expected, derived(times(one, other)))

    def test_products_of_great_degree(self):
        high = [0] * 12 + [1]
        self.assertEqual(ratios(*[0] * 24, 1), times(high, high))
        self.assertEqual(24, degree(times([0] * 24 + [2], [3] + [0] * 24)))
        self.refuses(TooMany, {"what": "degree", "limit": 24}, times, high, [0] + high)
        self.refuses(TooMany, {"what": "degree", "limit": 24}, times, [1] * 25, [1] * 25)
        self.assertEqual([], times([1] * 25, [0] * 25))

    def test_divided(self):
        for one in some_polys(24, 3):
            for other in some_polys(24, 4):
                if degree(other) < 0:
                    self.refuses(NoughtPoly, {}, divided, one, other)
                    continue
                result = divided(poly=one, other=other)
                self.assertIsInstance(result, tuple)
                quotient, rest = result
                self.assertTold(quotient)
                self.assertTold(rest)
                self.assertLess(degree(rest), degree(other))
                self.assertEqual(told(one), plus(times(quotient, other), rest))

    def test_divided_at_the_edges(self):
        self.assertEqual(([], ratios(1, 2)), divided([1, 2, 0], [1, 2, 3]))
        self.assertEqual(([], []), divided([0, 0], [1, 2, 3]))
        self.assertEqual((ratios(Ratio(1, 2), 1), []), divided([1, 2], [2, 0]))
        self.assertEqual((ratios(-1, 1), ratios(2)), divided([1, 0, 1], [1, 1]))
        self.refuses(NoughtPoly, {}, divided, [], (0, 0))

    def test_common_parts(self):
        parts = [poly for poly in some_polys(32, 6) if degree(poly) > 0]
        for part, one, other in zip(parts, parts[3:], parts[7:]):
            if degree(common(one, other)) == 0:
                expected = scaled(part, Ratio(1).over(told(part)[-1]))
                self.assertEqual(expected, common(poly=times(part, one), other=times(part, other)))
        self.assertEqual(ratios(1, 1), common([-1, 0, 1], [2, 2]))
        self.assertEqual(ratios(-1, 1), common([Ratio(1, 2), Ratio(-1, 2)], [-1, 0, 0, 7, 0, 0, -6]))

    def test_common_parts_at_the_edges(self):
        self.assertEqual([], common([], [0, 0]))
        self.assertEqual(ratios(Ratio(1, 2), 1), common([0], [2, 4]))
        self.assertEqual(ratios(Ratio(1, 2), 1), common([2, 4], []))
        self.assertEqual(ratios(1), common([3], [2, 4]))
        self.assertEqual(ratios(1), common([], [-7]))
        self.assertEqual(ratios(1), common([1, 1], [1, 2]))
        self.assertEqual(ratios(0, 1), common([0, 3, 0], [0, 0, 5]))

    def test_great_numbers(self):
        one = [Ratio(999983 - place, 999979 + place) for place in range(13)]
        part = [Ratio(-123457, 654321), 0, Ratio(999999, 7)]
        expected = scaled(part, Ratio(1).over(part[-1]))
        self.assertEqual(expected, common(times(one, part), times([1, 1], part)))
        self.assertEqual((told(one), []), divided(times(one, part), part))


class WrongValuesTest(Case):
    def test_polynomials(self):
        wrongs = wrong_polys()
        for action in (told, degree, derived):
            self.refuses_each(InvalidPoly, wrongs, action)
        for action in (plus, minus, times, divided, common):
            self.refuses_each(InvalidPoly, wrongs, lambda value, act=action: act(value, [1, 2]))
            self.refuses_each(InvalidPoly, wrongs, lambda value, act=action: act([1, 2], value))
        self.refuses_each(InvalidPoly, wrongs, lambda value: scaled(value, 1))
        self.refuses_each(InvalidPoly, wrongs, lambda value: worth(value, 1))

    def test_numbers(self):
        for poly in ([], [1, 2]):
            self.refuses_each(InvalidNumber, wrong_numbers(), lambda value, one=poly: scaled(one, value))
            self.refuses_each(InvalidNumber, wrong_numbers(), lambda value, one=poly: worth(one, value))

    def test_the_first_parameter_comes_first(self):
        self.refuses(InvalidPoly, {"value": [True]}, scaled, [True], "a")
        self.refuses(InvalidPoly, {"value": [True]}, worth, [True], "a")
        self.refuses(InvalidPoly, {"value": [True]}, times, [True], [0] * 26)
        self.refuses(InvalidPoly, {"value": [False]}, divided, [False], [])
        self.refuses(InvalidPoly, {"value": [0] * 26}, divided, [1] * 25, [0] * 26)
        self.refuses(InvalidPoly, {"value": [1] * 26}, times, [1] * 25, [1] * 26)
