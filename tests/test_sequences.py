"""Divisors and sequences (points 35, 36)."""

from math import factorial

from hingerows.polys import divided, scaled, told
from hingerows.ratios import Ratio
from hingerows.sequences import divisors, is_sequence, sequence_count, sequences
from hingerows.wholes import whole_parts
from tests.helpers import Case, as_ratios, fractions, made_of, refuses_polys, strangers, wrong_polys

I, II, III, IV = [1, 0, 1], [4, 0, 1], [1, 1, 1], [Ratio(1, 3), Ratio(-1, 2), 1]
# Polynomials that fall into quadratics, each with its quadratics.
FALLING = [
    [], [I], [I, II], [I, I], [I, II, III], [I, I, II], [I, I, I], [I, II, III, IV], [I, I, II, III], [I, I, II, II],
    [I, I, I, II], [I, I, I, I], [[-2, 0, 1], I],
]
BOUND = [[2, 1], [1, 0, 0, 0, 1], made_of([-1, 1], [1, 1]), made_of(I, [0, 1]), made_of(I, I, [1, 0, 0, 0, 1])]


def key(poly):
    return (len(poly), fractions(poly))


def all_polys():
    linear = [made_of(*[[number, 1] for number in range(8)]), made_of([1, 1], [1, 1], [1, 1], [-1, 2])]
    return [made_of(*parts) for parts in FALLING] + BOUND + linear + [[5], [0, 0, 0, 7]]


class DivisorsTest(Case):
    def test_as_many_as_the_parts_allow(self):
        for poly in all_polys():
            found = self.reckoned(divisors, poly=poly)
            many = 1
            for _, often in whole_parts(poly):
                many = many * (often + 1)
            self.assertEqual(many, len(found))
            self.assertEqual(sorted(found, key=key), found)
            self.assertEqual(many, len({str(one) for one in found}))
            for one in found:
                self.assertEqual((Ratio(1), told(one)), (one[-1], one))
                self.assertEqual([], divided(poly, one)[1])
            self.assertEqual(as_ratios([1]), found[0])
            self.assertEqual(scaled(poly, Ratio(1).over(told(poly)[-1])), found[-1])

    def test_of_two_quadratics(self):
        self.assertEqual(as_ratios([[1], I, II, made_of(I, II)]), divisors(made_of(I, II, [-3])))
        self.assertEqual(as_ratios([[1], I, made_of(I, I)]), divisors(made_of(I, I)))
        self.assertEqual(as_ratios([[1]]), divisors([Ratio(-7, 2)]))

    def test_returned_lists_are_new(self):
        for found in (divisors([7]), divisors(made_of(I, II))):
            for one in found:
                one.append(3)
            found.clear()
        self.assertEqual(as_ratios([[1]]), divisors([7]))


class SequencesTest(Case):
    def test_one_for_each_arrangement(self):
        for parts in FALLING:
            poly = made_of(*parts, [Ratio(2, 5)])
            found = self.reckoned(sequences, poly=poly)
            many = factorial(len(parts))
            for _, often in whole_parts(poly):
                many = many // factorial(often)
            self.assertEqual((many, many), (self.reckoned(sequence_count, poly=poly), len(found)))
            self.assertIs(int, sequence_count(poly).__class__)
            self.assertEqual(many, len({str(one) for one in found}))
            self.assertEqual(sorted(found, key=lambda one: [key(poly) for poly in one]), found)
            for one in found:
                self.assertEqual(sorted([key(told(part)) for part in parts]), sorted([key(part) for part in one]))
                self.assertBool(True, self.reckoned(is_sequence, poly=poly, value=one))
                self.assertEqual(scaled(poly, Ratio(1).over(told(poly)[-1])), made_of(*one) if one else as_ratios([1]))

    def test_of_two(self):
        self.assertEqual(as_ratios([[I, II], [II, I]]), sequences(made_of(II, I)))
        self.assertEqual(as_ratios([[I, I, II], [I, II, I], [II, I, I]]), sequences(made_of(II, I, I)))

    def test_another_bound_part_has_none(self):
        for poly in BOUND:
            self.assertEqual(([], 0), (self.reckoned(sequences, poly=poly), self.reckoned(sequence_count, poly=poly)))
            for value in ([], [poly], [I], [[-1, 1], [1, 1]], [I, [0, 1]]):
                self.assertBool(False, is_sequence(poly, value))

    def test_of_degree_nought_there_is_the_empty_one(self):
        self.assertEqual(([[]], 1), (sequences([Ratio(1, 3)]), sequence_count([-4, 0])))
        self.assertBool(True, is_sequence([5], []))
        self.assertBool(True, is_sequence([5], ()))
        self.assertBool(False, is_sequence([5], [[1]]))
        self.assertBool(False, is_sequence([5], [[5]]))

    def test_returned_lists_are_new(self):
        found = sequences(made_of(I, II))
        found[0][0].append(1)
        found[1].clear()
        self.assertEqual(as_ratios([[I, II], [II, I]]), sequences(made_of(I, II)))
        same = sequences(made_of(I, I))[0]
        same[0].append(1)
        self.assertEqual(as_ratios(I), same[1])


class IsSequenceTest(Case):
    def test_any_value(self):
        poly = made_of(I, II)
        for value in ([I, II], (II, I), [tuple(I), [*II, 0, Ratio(0)]], [[Ratio(4, 4), 0, 1], [4, Ratio(0), 1]]):
            self.assertBool(True, is_sequence(poly, value))
        for value in strangers() + wrong_polys() + [
            0, I, [I], [I, I], [I, II, I], [I, II, [1]], [[2, 0, 2], [2, 0, Ratio(1, 2)]], [made_of(I, II)], [],
            [I, III], [[-1, 0, -1], [-4, 0, -1]], {0: I, 1: II}, [[1], made_of(I, II)], [I, II, None],
            [I, [4, 0, True]], "ab",
        ]:
            self.assertBool(False, is_sequence(poly, value))

    def test_how_often(self):
        poly = made_of(I, I, II)
        self.assertBool(True, is_sequence(poly, [I, II, I]))
        self.assertBool(False, is_sequence(poly, [I, II, II]))
        self.assertBool(False, is_sequence(poly, [I, II]))

    def test_that_does_not_fall(self):
        self.assertBool(False, is_sequence(made_of([1, 1], [2, 1]), [made_of([1, 1], [2, 1])]))
        self.assertBool(False, is_sequence([1, 0, 0, 0, 1], [[1, 0, 0, 0, 1]]))


class WrongValuesTest(Case):
    def test_wrong_polynomials(self):
        actions = (divisors, sequence_count, sequences, lambda poly: is_sequence(poly, None))
        for action in actions:
            refuses_polys(self, action)
