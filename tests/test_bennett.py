"""Sides of four hinges in a ring, Bennett's rule (points 76, 77)."""

from hingerows.bennett import is_bennett, sides
from hingerows.chains import closes
from hingerows.changes import led_row
from hingerows.closing import chain_of_four
from hingerows.eights import Eight
from hingerows.errors import InvalidHinges
from hingerows.lines import far, hinge_by, kind, line_of, line_through, sine
from hingerows.ratios import Ratio
from tests.helpers import (
    BESIDE, FAST, LEVEL, ONE, SIDE, SLOW, TURN, UP, WIDE, Case, norm_of, some_hinges, some_poses, strangers,
    wrong_hinges,
)


def rings():
    """Chains of four, of hinges whose lines are apart, meet, are parallel and are one."""
    hinges = [UP, SIDE, LEVEL, FAST, SLOW, WIDE, *some_hinges(4)]
    meeting = hinge_by(line_through((0, 0, 5), (1, 2, 5)), 0, 3)
    parallel = hinge_by(line_through((1, 2, 0), (1, 2, 1)), 1, 2)
    pairs = [(one, other) for one in hinges for other in hinges if norm_of(one) != norm_of(other)]
    pairs.extend([(UP, meeting), (meeting, UP), (UP, parallel), (parallel, UP), (UP, UP.times(3)), (UP, UP + ONE)])
    return [chain_of_four(one, other) for one, other in pairs]


def told_sides(hinges):
    lines = [line_of(hinge) for hinge in hinges]
    return [(far(lines[at], lines[(at + 1) % 4]), sine(lines[at], lines[(at + 1) % 4])) for at in range(4)]


def told_rule(hinges):
    """Bennett's rule by the words of point 77."""
    lines = [line_of(hinge) for hinge in hinges]
    if any(kind(lines[at], lines[(at + 1) % 4]) != "apart" for at in range(4)):
        return False
    first, second, third, fourth = told_sides(hinges)
    return (first, second) == (third, fourth) and first[0] * second[1] == second[0] * first[1]


class SidesTest(Case):
    def test_the_example(self):
        one, small = (Ratio(1), Ratio(1)), (Ratio(9, 25), Ratio(9, 25))
        self.assertEqual([one, small, one, small], sides(chain_of_four(UP, SIDE)))

    def test_round_the_four(self):
        for hinges in ([UP, SIDE, LEVEL, FAST], [FAST, SLOW, WIDE, UP], [UP, UP, SIDE, BESIDE], [UP] * 4):
            found = self.asked(sides, hinges=hinges)
            self.assertEqual(told_sides(hinges), found)
            self.assertEqual([list] + [tuple] * 4, [found.__class__] + [side.__class__ for side in found])
            self.assertTrue(all(number.__class__ is Ratio for side in found for number in side))
        self.assertEqual([(Ratio(0), Ratio(0))] * 4, sides([UP] * 4))

    def test_opposite_sides_of_chains_are_alike(self):
        for ring in rings():
            first, second, third, fourth = sides(ring)
            self.assertEqual((first, second), (third, fourth))
            self.assertEqual(first[0] * second[1], second[0] * first[1])

    def test_lines_alone_tell(self):
        ring = [FAST, SLOW, WIDE, UP]
        self.assertEqual(sides(ring), sides([hinge.times(-3) for hinge in ring]))
        self.assertEqual(sides(ring), sides([hinge + ONE.times(5) for hinge in ring]))
        for pose in some_poses(4):
            self.assertEqual(sides(ring), sides(led_row(ring, pose)))

    def test_wrong_hinges(self):
        refuses_hinges(self, sides)


class IsBennettTest(Case):
    def test_chains_of_lines_that_are_apart(self):
        kept = 0
        for ring in rings():
            lines = [line_of(hinge) for hinge in ring]
            apart = all(kind(lines[at], lines[at - 1]) == "apart" for at in range(4))
            self.assertBool(apart, self.asked(is_bennett, hinges=ring))
            kept += apart
        self.assertGreater(kept, 20)
        self.assertGreater(len(rings()), kept + 5)

    def test_as_the_words_tell(self):
        hinges = [UP, SIDE, LEVEL, FAST]
        for one in hinges:
            for two in hinges:
                for three in hinges:
                    for ring in ([one, two, three, SLOW], [one, two, three, two], [one, two, one, three]):
                        self.assertBool(told_rule(ring), is_bennett(ring))

    def test_neighbours_that_meet_are_parallel_or_one(self):
        meeting = hinge_by(line_through((0, 0, 5), (1, 2, 5)), 0, 3)
        parallel = hinge_by(line_through((1, 2, 0), (1, 2, 1)), 1, 2)
        for other in (meeting, parallel, UP.times(3), UP + ONE):
            ring = chain_of_four(UP, other)
            self.assertBool(False, is_bennett(ring))
            self.assertBool(False, is_bennett([UP, other, UP, other]))

    def test_hinges_that_keep_it_need_not_close(self):
        ring = [UP, SIDE, UP, SIDE]
        self.assertBool(True, is_bennett(ring))
        self.assertBool(False, closes([UP, SIDE], [SIDE, UP]))
        one, other, last, first = chain_of_four(UP, SIDE)
        turned_otherwise = [one.times(7), other + ONE, last, first.times(-2)]
        self.assertBool(True, is_bennett(turned_otherwise))
        self.assertBool(False, closes(turned_otherwise[:2], turned_otherwise[:1:-1]))

    def test_opposite_sides_unlike(self):
        def ring(*places):
            """Lines upright and level in turn, at these places of y: each sine is 1, each far a difference squared."""
            hinges = []
            for at, y in enumerate(places):
                end = (0, y, 6) if at % 2 else (1, y, 5)
                hinges.append(hinge_by(line_through((0, y, 5), end), 0, 1))
            return hinges

        self.assertEqual([1, 4, 1, 16], [side[0].top for side in sides(ring(0, 1, 3, 4))])
        self.assertBool(False, is_bennett(ring(0, 1, 3, 4)))
        self.assertEqual([4, 1, 16, 1], [side[0].top for side in sides(ring(1, 3, 4, 0))])
        self.assertBool(False, is_bennett(ring(1, 3, 4, 0)))
        # Here the first two sides keep the rule, and just one of the others is unlike.
        self.assertEqual([1, 1, 1, 9], [side[0].top for side in sides(ring(0, 1, 2, 3))])
        self.assertBool(False, is_bennett(ring(0, 1, 2, 3)))
        self.assertEqual([1, 1, 9, 1], [side[0].top for side in sides(ring(1, 2, 3, 0))])
        self.assertBool(False, is_bennett(ring(1, 2, 3, 0)))
        self.assertEqual([4, 4, 4, 4], [side[0].top for side in sides(ring(0, 2, 0, -2))])
        self.assertBool(True, is_bennett(ring(0, 2, 0, -2)))

    def test_products_unlike_with_opposite_sides_alike(self):
        found = 0
        # A half turn about an axis leads the first line to the third one, and the second one to the fourth one.
        for x, y, z in ((1, 2, 3), (2, 1, -1), (0, 1, 2), (3, 1, 1)):
            one = hinge_by(line_through((x, y, z), (x + 1, y + 2, z - 1)), 0, 1)
            two = hinge_by(line_through((y, z, x + 1), (y, z + 3, x)), 0, 1)
            ring = [one, two, *led_row([one, two], Eight((0, 1, 0, 0)))]
            first, second, third, fourth = sides(ring)
            self.assertEqual((first, second), (third, fourth))
            self.assertBool(told_rule(ring), is_bennett(ring))
            found += not is_bennett(ring) and all(number.sign != 0 for side in sides(ring) for number in side)
        self.assertGreater(found, 2)

    def test_wrong_hinges(self):
        refuses_hinges(self, is_bennett)


def refuses_hinges(case, action):
    good = [UP, SIDE, LEVEL, FAST]
    for value in strangers() + [0, 1, UP, TURN, [], (), good[:3], tuple(good[:1]), good + [SLOW], [good], [None] * 3]:
        case.refuses(InvalidHinges, {"position": None}, action, value)
    for position in range(4):
        for wrong in wrong_hinges():
            ring = [*good[:position], wrong, *good[position + 1:]]
            case.refuses(InvalidHinges, {"position": position}, action, ring)
            case.refuses(InvalidHinges, {"position": position}, action, tuple(ring))
    case.refuses(InvalidHinges, {"position": 1}, action, [UP, ONE, None, 3])
    case.refuses(InvalidHinges, {"position": 0}, action, hinges=[ONE.times(0), UP, None, UP])
