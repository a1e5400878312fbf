"""Chains of four (point 75)."""

from hingerows.chains import chain, closes
from hingerows.closing import chain_of_four, is_chain_of_four
from hingerows.eights import Eight
from hingerows.errors import AlikeNorms, InvalidHinge
from hingerows.exchanges import exchanged
from hingerows.lines import hinge_by, line_through
from hingerows.motions import hinge_motion, row_motion
from hingerows.parts import right_part
from hingerows.ratios import Ratio
from tests.helpers import (
    BESIDE, FAST, LEVEL, ONE, SIDE, SLANT, SLOW, TURN, UP, WIDE, Case, norm_of, some_hinges, strangers,
    wrong_hinges,
)

NEAR = Eight((0, 0, 0, -1), (0, 1, 1, 0))


def unlike_pairs():
    hinges = [UP, SIDE, LEVEL, FAST, SLOW, WIDE, UP + ONE, UP.times(2), *some_hinges(3)]
    return [(one, other) for one in hinges for other in hinges if norm_of(one) != norm_of(other)]


def alike_pairs():
    return [(UP, UP), (UP, LEVEL), (BESIDE, SLANT), (UP, UP.mirror()), (UP, NEAR), (SIDE, SIDE.mirror())]


class ChainOfFourTest(Case):
    def test_the_example(self):
        axis, bar = line_through((0, 0, 0), (0, 0, 1)), line_through((0, 1, 0), (1, 1, 0))
        one, two = hinge_by(axis, 0, 1), hinge_by(bar, 0, 2)
        self.assertEqual((UP, SIDE), (one, two))
        ring = chain_of_four(one, two)
        last = Eight((0, Ratio(4, 5), 0, Ratio(-3, 5)), (0, Ratio(-24, 25), 0, Ratio(-32, 25)))
        first = Eight((0, Ratio(6, 5), 0, Ratio(8, 5)), (0, Ratio(24, 25), 0, Ratio(-18, 25)))
        self.assertEqual((one, two, last, first), ring)

    def test_the_facts(self):
        for one, other in unlike_pairs():
            ring = self.asked(chain_of_four, hinge=one, other=other)
            self.assertIsInstance(ring, tuple)
            self.assertEqual(4, len(ring))
            last, first = ring[2:]
            self.assertEqual((one, other), ring[:2])
            self.assertEqual(norm_of(one), norm_of(last))
            self.assertEqual(norm_of(other), norm_of(first))
            motion = hinge_motion(one) * hinge_motion(other)
            self.assertEqual(motion, hinge_motion(first) * hinge_motion(last))
            self.assertBool(True, motion.is_plain)
            self.assertEqual(one + other - last, first)
            self.assertEqual([first, last], exchanged([one, other], 0))
            self.assertEqual(hinge_motion(last), right_part(motion, norm_of(one)))
            self.assertBool(True, is_chain_of_four(ring))
            self.assertEqual(list(ring), chain([one, other], [first, last]))

    def test_hinges_of_one_line_and_of_parallel_lines(self):
        double = UP.times(2)
        self.assertEqual((UP, double, UP, double), chain_of_four(UP, double))
        beside = Eight((0, 0, 0, 2), (0, 1, 0, 0))
        one, other, last, first = chain_of_four(UP, beside)
        self.assertTrue(closes([one, other], [first, last]))
        self.assertNotEqual((one, other), (last, first))

    def test_alike_norms(self):
        for one, other in alike_pairs():
            self.assertEqual(norm_of(one), norm_of(other))
            self.refuses(AlikeNorms, {}, chain_of_four, one, other)
            self.refuses(AlikeNorms, {}, chain_of_four, other, one)

    def test_wrong_hinges(self):
        self.refuses_each(InvalidHinge, wrong_hinges(), lambda value: chain_of_four(value, UP))
        self.refuses_each(InvalidHinge, wrong_hinges(), lambda value: chain_of_four(UP, value))
        self.refuses(InvalidHinge, {"value": ONE}, chain_of_four, ONE, "other")
        self.refuses(InvalidHinge, {"value": None}, chain_of_four, hinge=UP, other=None)


class IsChainOfFourTest(Case):
    def test_chains_in_any_form(self):
        for one, other in unlike_pairs()[:12]:
            ring = chain_of_four(one, other)
            self.assertBool(True, self.asked(is_chain_of_four, value=list(ring)))
            # Turned about, and begun with the hinges that were exchanged.
            self.assertBool(True, is_chain_of_four([ring[3], ring[2], ring[1], ring[0]]))

    def test_motions_that_are_not_plain(self):
        self.assertBool(True, is_chain_of_four([UP, UP.mirror(), LEVEL.mirror(), LEVEL]))
        self.assertBool(False, is_chain_of_four([UP, UP.mirror(), LEVEL, LEVEL]))
        self.assertBool(False, is_chain_of_four([UP, UP.mirror(), SIDE.mirror(), SIDE]))
        self.assertEqual(row_motion([UP, UP.mirror()]), row_motion([LEVEL, LEVEL.mirror()]))

    def test_equal_hinges(self):
        self.assertBool(False, is_chain_of_four([UP, SIDE, SIDE, UP]))
        self.assertBool(False, is_chain_of_four([UP, UP, UP, UP]))
        self.assertTrue(closes([UP, SIDE], [UP, SIDE]))

    def test_other_rings(self):
        one, other, last, first = chain_of_four(UP, SIDE)
        for value in (
            [one, other, first, last], [other, one, last, first], [one, last, other, first], [last, first, one, other],
            [one, other, last, first + ONE], [one, other, last.times(2), first], [UP, SIDE, FAST, SLOW],
        ):
            moved = row_motion([value[0], value[1]]) == row_motion([value[3], value[2]]) and value[0] != value[3]
            self.assertBool(moved, is_chain_of_four(value))
        self.assertBool(False, is_chain_of_four([one, other, first, last]))

    def test_any_value(self):
        ring = list(chain_of_four(UP, SIDE))
        for value in strangers() + [0, 1, UP, TURN, [], ring[:3], ring + [UP], [ring], (UP,) * 4]:
            self.assertBool(False, is_chain_of_four(value))
        for wrong in wrong_hinges():
            for place in range(4):
                value = [*ring[:place], wrong, *ring[place + 1:]]
                self.assertBool(False, is_chain_of_four(value))
        self.assertBool(True, is_chain_of_four(value=tuple(ring)))
