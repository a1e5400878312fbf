"""What the tests share: values of every kind, samples, and how a refusal is told."""

import random
import unittest
from fractions import Fraction

from hingerows.eights import Eight
from hingerows.motions import Motion, hinge_motion
from hingerows.ratios import Ratio


class Case(unittest.TestCase):
    """A test case that can tell which error comes, and that nothing has changed behind it."""

    def refuses(self, error, told, action, *parts, **named):
        before = repr((parts, named))
        with self.assertRaises(error) as caught:
            action(*parts, **named)
        raised = caught.exception
        self.assertIs(error, raised.__class__)
        self.assertEqual(sorted(told), sorted(vars(raised)))
        for name, value in told.items():
            self.assertIs(value.__class__, getattr(raised, name).__class__)
            self.assertEqual(value, getattr(raised, name))
        self.assertEqual(before, repr((parts, named)))

    def refuses_each(self, error, wrongs, action, name="value"):
        """The action of one value raises the error with this very value for each wrong one."""
        for wrong in wrongs:
            with self.subTest(wrong=repr(wrong)):
                self.refuses(error, {name: wrong}, action, wrong)

    def assertBool(self, expected, value):
        self.assertIs(expected, value)


def strangers():
    """Values that are no numbers, no lists and no objects of the package."""
    return [
        None, True, False, "", "1", "0,0,0,1", b"\x00\x01\x02\x03", {}, {0: 1, 1: 2, 2: 3, 3: 4}, set(), {1, 2, 3},
        frozenset([1]), object(), int, Ratio, len, lambda: 1, range(3), range(4), iter([1, 2, 3]), 2j,
        Fraction(1, 2), ValueError("wrong"), NotImplemented, Ellipsis,
    ]


def number_samples():
    return [0, 1, -7, 123456, 10 ** 40, Ratio(0), Ratio(5), Ratio(-3, 4), Ratio(10 ** 30, 7)]


def wrong_numbers():
    some = Eight((0, 0, 0, 1))
    return strangers() + [[], [1], (1,), (1, 2), [[1]], some, hinge_motion(some)]


def wrong_fours():
    inside = [[1, 2, 3, wrong] for wrong in wrong_numbers()] + [(wrong, 2, 3, 4) for wrong in wrong_numbers()]
    lengths = [[], (), [1], (1, 2, 3), [1, 2, 3, 4, 5], ((1, 2, 3, 4),), [(1, 2, 3, 4), (0, 0, 0, 0)]]
    return strangers() + [0, 5, Ratio(1, 2), Eight((1, 2, 3, 4))] + lengths + inside


def wrong_points():
    inside = [[1, 2, wrong] for wrong in wrong_numbers()] + [(wrong, 2, 3) for wrong in wrong_numbers()]
    lengths = [[], (), [1], (1, 2), [1, 2, 3, 4], ((1, 2, 3),), ((1, 0, 0), (0, 0, 0))]
    return strangers() + [0, 5, Ratio(1, 2), Eight((1, 2, 3, 4))] + lengths + inside


def wrong_eights():
    fours = [(0, 0, 0, 1), [0, 0, 0, 1], ((0, 0, 0, 1), (0, 0, 0, 0)), [Eight((0, 0, 0, 1))]]
    return strangers() + [0, 1, Ratio(1, 2), hinge_motion(Eight((0, 0, 0, 1)))] + fours


def wrong_poses():
    return wrong_eights() + [
        Eight((0, 0, 0, 0)), Eight((0, 0, 0, 0), (1, 0, 0, 0)), Eight((1, 0, 0, 0), (1, 0, 0, 0)),
        Eight((1, 2, 0, 0), (0, Ratio(1, 3), 0, 0)),
    ]


def wrong_hinges():
    return wrong_eights() + [
        Eight((0, 0, 0, 0)), Eight((5, 0, 0, 0)), Eight((1, 0, 0, 0), (0, 1, 0, 0)),
        Eight((0, 1, 0, 0), (1, 0, 0, 0)), Eight((0, 1, 0, 0), (0, 1, 0, 0)), Eight((0, 1, 2, 0), (0, 3, -1, 0)),
    ]


def wrong_lines():
    points = [[0, 0, 0], (1, 0), (1, 0, 0, 0), (1, 0, True), "abc", None, 1]
    inside = [(wrong, (0, 0, 0)) for wrong in points] + [((1, 0, 0), wrong) for wrong in points[1:]]
    shapes = [((1, 0, 0),), ((1, 0, 0), (0, 0, 0), (0, 0, 0)), [(1, 0, 0), (0, 0, 0)], (), []]
    crooked = [((1, 0, 0), (1, 0, 0)), ((1, 2, 3), (1, 1, Ratio(-2, 3))), ((1, 0, 0), (-1, 0, 0))]
    return strangers() + [0, 1, Ratio(1, 2), Eight((0, 1, 0, 0))] + shapes + inside + crooked


def wrong_polys():
    inside = [[1, wrong] for wrong in wrong_numbers()] + [(wrong, 2, 3) for wrong in wrong_numbers()]
    return strangers() + [0, 1, Ratio(1, 2), Eight((0, 1, 0, 0)), [0] * 26, (1,) * 26, [[1, 2]]] + inside


def wrong_motions():
    some = Eight((0, 0, 0, 1))
    return strangers() + [0, 1, Ratio(1), some, [-some, Eight((1, 0, 0, 0))], [some], (0, 0, 0, 1), [[1], [1]]]


def wrong_rows():
    good = Eight((0, 0, 0, 1))
    inside = [[good, wrong] for wrong in wrong_hinges()]
    return strangers() + [0, 1, good, hinge_motion(good), [], (), [good] * 7, (good,) * 7] + inside


def some_numbers(many, seed=1):
    """Numbers of either sign, INTEGERS and Ratios, always the same ones."""
    source = random.Random(seed)
    numbers = []
    for _ in range(many):
        top, bottom = source.randint(-9, 9), source.choice([1, 1, 2, 3, 5])
        numbers.append(top if bottom == 1 else Ratio(top, bottom))
    return numbers


def some_eights(many, seed=2):
    numbers = some_numbers(8 * many, seed)
    return [Eight(numbers[8 * at:8 * at + 4], numbers[8 * at + 4:8 * at + 8]) for at in range(many)]


def some_points(many, seed=3):
    numbers = some_numbers(3 * many, seed)
    return [tuple(numbers[3 * at:3 * at + 3]) for at in range(many)]


def some_poses(many, seed=4):
    """Poses made of fours and points by the document's words: 1 + e p / 2 times a four."""
    poses = []
    for first, point in zip(some_eights(many, seed), some_points(many, seed)):
        go = Eight((1, 0, 0, 0), (0, *[Ratio(1, 2) * number for number in point]))
        poses.append(go * Eight(first.first()))
    return [pose for pose in poses if pose.is_pose]


def some_hinges(many, seed=5):
    """Hinges through some points: r + u + e (p x u)."""
    hinges = []
    for at, (point, direction) in enumerate(zip(some_points(many, seed), some_points(many, seed + 100))):
        a, b, c = point
        u, v, w = direction
        if any(number not in (0, Ratio(0)) for number in direction):
            hinges.append(Eight((at - 1, u, v, w), (0, b * w - c * v, c * u - a * w, a * v - b * u)))
    return hinges


def fraction(number):
    """A number as Python's own fraction, to reckon the same in another way."""
    if isinstance(number, int):
        return Fraction(number)
    return Fraction(number.top, number.bottom)


def fractions(numbers):
    return [fraction(number) for number in numbers]


def convolved(ones, others):
    """The product of two polynomials of eights, reckoned by the powers of t."""
    nought = Eight((0, 0, 0, 0))
    result = [nought] * (len(ones) + len(others) - 1)
    for low, one in enumerate(ones):
        for high, other in enumerate(others):
            result[low + high] = result[low + high] + one * other
    return result


def summed(ones, others):
    """The sum of two polynomials of eights, without noughts at its end."""
    nought = Eight((0, 0, 0, 0))
    length = max(len(ones), len(others))
    ones = list(ones) + [nought] * (length - len(ones))
    others = list(others) + [nought] * (length - len(others))
    result = [one + other for one, other in zip(ones, others)]
    while result and result[-1] == nought:
        result.pop()
    return result


def some_motions(many, seed=6):
    """Motions of degree 1, 2 and 3 by hinges, and one that goes without turning."""
    hinges = some_hinges(3 * many, seed)
    motions = [Motion([Eight((0, 0, 0, 0), (0, 1, Ratio(1, 2), 0)), Eight((1, 0, 0, 0))])]
    for at in range(many):
        motion = hinge_motion(hinges[at])
        for step in range(at % 3):
            motion = motion * hinge_motion(hinges[(at + step + 1) % len(hinges)])
        motions.append(motion)
    return motions
