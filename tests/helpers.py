"""What the tests share: values of every kind, samples, and how a refusal is told."""

import random
import unittest
from fractions import Fraction

from hingerows.eights import Eight
from hingerows.errors import InvalidDivisor, InvalidPoly, NoughtPoly, TooMany
from hingerows.motions import Motion, hinge_motion, row_motion
from hingerows.polys import times
from hingerows.ratios import Ratio

ONE = Eight((1, 0, 0, 0))
NOUGHT = Eight((0, 0, 0, 0))


class Case(unittest.TestCase):
    """A test case that can tell which error comes, and that nothing has changed behind it."""

    def refuses(self, error, told, action, *parts, **named):
        before = repr((parts, named))
        with self.assertRaises(error) as caught:
            action(*parts, **named)
        raised = caught.exception
        self.assertIs(error, raised.__class__)
        self.assertEqual(sorted(told), sorted(vars(raised)))
        for name, value in told.items():
            self.assertIs(value.__class__, getattr(raised, name).__class__)
            self.assertEqual(value, getattr(raised, name))
        self.assertEqual(before, repr((parts, named)))

    def refuses_each(self, error, wrongs, action, name="value"):
        """The action of one value raises the error with this very value for each wrong one."""
        for wrong in wrongs:
            with self.subTest(wrong=repr(wrong)):
                self.refuses(error, {name: wrong}, action, wrong)

    def assertBool(self, expected, value):
        self.assertIs(expected, value)

    def asked(self, action, **named):
        """What the action returns, by position and by the interface's names, of lists and of tuples."""
        before = repr(named)
        answer = action(*named.values())
        self.assertEqual(repr(answer), repr(action(**named)))
        self.assertEqual(repr(answer), repr(action(**{name: as_tuples(value) for name, value in named.items()})))
        self.assertEqual(before, repr(named))
        return answer

    def reckoned(self, action, **named):
        """Likewise, of INTEGERS and of Ratios as well."""
        answer = self.asked(action, **named)
        self.assertEqual(repr(answer), repr(action(**{name: as_ratios(value) for name, value in named.items()})))
        return answer


def strangers():
    """Values that are no numbers, no lists and no objects of the package."""
    return [
        None, True, False, "", "1", "0,0,0,1", b"\x00\x01\x02\x03", {}, {0: 1, 1: 2, 2: 3, 3: 4}, set(), {1, 2, 3},
        frozenset([1]), object(), int, Ratio, len, lambda: 1, range(3), range(4), iter([1, 2, 3]), 2j,
        Fraction(1, 2), ValueError("wrong"), NotImplemented, Ellipsis,
    ]


def number_samples():
    return [0, 1, -7, 123456, 10 ** 40, Ratio(0), Ratio(5), Ratio(-3, 4), Ratio(10 ** 30, 7)]


def wrong_numbers():
    some = Eight((0, 0, 0, 1))
    return strangers() + [[], [1], (1,), (1, 2), [[1]], some, hinge_motion(some)]


def wrong_fours():
    inside = [[1, 2, 3, wrong] for wrong in wrong_numbers()] + [(wrong, 2, 3, 4) for wrong in wrong_numbers()]
    lengths = [[], (), [1], (1, 2, 3), [1, 2, 3, 4, 5], ((1, 2, 3, 4),), [(1, 2, 3, 4), (0, 0, 0, 0)]]
    return strangers() + [0, 5, Ratio(1, 2), Eight((1, 2, 3, 4))] + lengths + inside


def wrong_points():
    inside = [[1, 2, wrong] for wrong in wrong_numbers()] + [(wrong, 2, 3) for wrong in wrong_numbers()]
    lengths = [[], (), [1], (1, 2), [1, 2, 3, 4], ((1, 2, 3),), ((1, 0, 0), (0, 0, 0))]
    return strangers() + [0, 5, Ratio(1, 2), Eight((1, 2, 3, 4))] + lengths + inside


def wrong_eights():
    fours = [(0, 0, 0, 1), [0, 0, 0, 1], ((0, 0, 0, 1), (0, 0, 0, 0)), [Eight((0, 0, 0, 1))]]
    return strangers() + [0, 1, Ratio(1, 2), hinge_motion(Eight((0, 0, 0, 1)))] + fours


def wrong_poses():
    return wrong_eights() + [
        Eight((0, 0, 0, 0)), Eight((0, 0, 0, 0), (1, 0, 0, 0)), Eight((1, 0, 0, 0), (1, 0, 0, 0)),
        Eight((1, 2, 0, 0), (0, Ratio(1, 3), 0, 0)),
    ]


def wrong_hinges():
    return wrong_eights() + [
        Eight((0, 0, 0, 0)), Eight((5, 0, 0, 0)), Eight((1, 0, 0, 0), (0, 1, 0, 0)),
        Eight((0, 1, 0, 0), (1, 0, 0, 0)), Eight((0, 1, 0, 0), (0, 1, 0, 0)), Eight((0, 1, 2, 0), (0, 3, -1, 0)),
    ]


def wrong_lines():
    points = [[0, 0, 0], (1, 0), (1, 0, 0, 0), (1, 0, True), "abc", None, 1]
    inside = [(wrong, (0, 0, 0)) for wrong in points] + [((1, 0, 0), wrong) for wrong in points[1:]]
    shapes = [((1, 0, 0),), ((1, 0, 0), (0, 0, 0), (0, 0, 0)), [(1, 0, 0), (0, 0, 0)], (), []]
    crooked = [((1, 0, 0), (1, 0, 0)), ((1, 2, 3), (1, 1, Ratio(-2, 3))), ((1, 0, 0), (-1, 0, 0))]
    return strangers() + [0, 1, Ratio(1, 2), Eight((0, 1, 0, 0))] + shapes + inside + crooked


def wrong_polys():
    inside = [[1, wrong] for wrong in wrong_numbers()] + [(wrong, 2, 3) for wrong in wrong_numbers()]
    return strangers() + [0, 1, Ratio(1, 2), Eight((0, 1, 0, 0)), [0] * 26, (1,) * 26, [[1, 2]]] + inside


def wrong_motions():
    some = Eight((0, 0, 0, 1))
    return strangers() + [0, 1, Ratio(1), some, [-some, Eight((1, 0, 0, 0))], [some], (0, 0, 0, 1), [[1], [1]]]


def wrong_rows():
    good = Eight((0, 0, 0, 1))
    inside = [[good, wrong] for wrong in wrong_hinges()]
    return strangers() + [0, 1, good, hinge_motion(good), [], (), [good] * 7, (good,) * 7] + inside


def some_numbers(many, seed=1):
    """Numbers of either sign, INTEGERS and Ratios, always the same ones."""
    source = random.Random(seed)
    numbers = []
    for _ in range(many):
        top, bottom = source.randint(-9, 9), source.choice([1, 1, 2, 3, 5])
        numbers.append(top if bottom == 1 else Ratio(top, bottom))
    return numbers


def some_eights(many, seed=2):
    numbers = some_numbers(8 * many, seed)
    return [Eight(numbers[8 * at:8 * at + 4], numbers[8 * at + 4:8 * at + 8]) for at in range(many)]


def some_points(many, seed=3):
    numbers = some_numbers(3 * many, seed)
    return [tuple(numbers[3 * at:3 * at + 3]) for at in range(many)]


def some_poses(many, seed=4):
    """Poses made of fours and points by the document's words: 1 + e p / 2 times a four."""
    poses = []
    for first, point in zip(some_eights(many, seed), some_points(many, seed)):
        go = Eight((1, 0, 0, 0), (0, *[Ratio(1, 2) * number for number in point]))
        poses.append(go * Eight(first.first()))
    return [pose for pose in poses if pose.is_pose]


def some_hinges(many, seed=5):
    """Hinges through some points: r + u + e (p x u)."""
    hinges = []
    for at, (point, direction) in enumerate(zip(some_points(many, seed), some_points(many, seed + 100))):
        a, b, c = point
        u, v, w = direction
        if any(number not in (0, Ratio(0)) for number in direction):
            hinges.append(Eight((at - 1, u, v, w), (0, b * w - c * v, c * u - a * w, a * v - b * u)))
    return hinges


def fraction(number):
    """A number as Python's own fraction, to reckon the same in another way."""
    if isinstance(number, int):
        return Fraction(number)
    return Fraction(number.top, number.bottom)


def fractions(numbers):
    return [fraction(number) for number in numbers]


def convolved(ones, others):
    """The product of two polynomials of eights, reckoned by the powers of t."""
    nought = Eight((0, 0, 0, 0))
    result = [nought] * (len(ones) + len(others) - 1)
    for low, one in enumerate(ones):
        for high, other in enumerate(others):
            result[low + high] = result[low + high] + one * other
    return result


def summed(ones, others):
    """The sum of two polynomials of eights, without noughts at its end."""
    nought = Eight((0, 0, 0, 0))
    length = max(len(ones), len(others))
    ones = list(ones) + [nought] * (length - len(ones))
    others = list(others) + [nought] * (length - len(others))
    result = [one + other for one, other in zip(ones, others)]
    while result and result[-1] == nought:
        result.pop()
    return result


def some_motions(many, seed=6):
    """Motions of degree 1, 2 and 3 by hinges, and one that goes without turning."""
    hinges = some_hinges(3 * many, seed)
    motions = [Motion([Eight((0, 0, 0, 0), (0, 1, Ratio(1, 2), 0)), Eight((1, 0, 0, 0))])]
    for at in range(many):
        motion = hinge_motion(hinges[at])
        for step in range(at % 3):
            motion = motion * hinge_motion(hinges[(at + step + 1) % len(hinges)])
        motions.append(motion)
    return motions


def as_tuples(value):
    """The value with tuples for lists."""
    return tuple([as_tuples(one) for one in value]) if isinstance(value, (list, tuple)) else value


def as_ratios(value):
    """The value with Ratios for INTEGERS."""
    if isinstance(value, (list, tuple)):
        return value.__class__([as_ratios(one) for one in value])
    return Ratio(value) if isinstance(value, int) else value


def made_of(*polys):
    """The product of polynomials of numbers, told."""
    product = [1]
    for poly in polys:
        product = times(product, poly)
    return product


def alone(*eights):
    """The motion of these eights, the last one, 1, left out."""
    return Motion([*eights, ONE])


def norm_of(hinge):
    """The quadratic of a hinge by the document's words: t t - 2 r t + r r + the norm of u."""
    r, *direction = hinge.first()
    return [r * r + Ratio.total([number * number for number in direction]), r * -2, Ratio(1)]


UP = Eight((0, 0, 0, 1))
SIDE = Eight((0, 2, 0, 0), (0, 0, 0, -2))
TURN = hinge_motion(UP)
BOTH = row_motion([UP, SIDE])
# Three hinges of the same norm about lines apart, and three more of unlike norms.
LEVEL = Eight((0, 1, 0, 0), (0, 0, 1, 0))
BESIDE = Eight((0, 0, 1, 0), (0, 0, 0, 3))
SLANT = Eight((0, Ratio(3, 5), Ratio(4, 5), 0), (0, 4, -3, 1))
FAST = Eight((1, 1, 1, 0), (0, 1, -1, Ratio(1, 2)))
SLOW = Eight((Ratio(-1, 2), 3, 0, 1), (0, 1, 2, -3))
WIDE = Eight((2, 0, Ratio(1, 3), 2), (0, 5, 0, 0))
# Motions without rows: the norms t^4 + 1, t^4 + 9, t^6 + 2 t^3 + 2, t^8 + 2 t^4 + 2 are whole.
SQUARE = alone(Eight((0, 1, 0, 0), (0, 0, 2, -1)), NOUGHT)
SQUARE_NORM = [1, 0, 0, 0, 1]
THIRD = alone(Eight((0, 0, 3, 0), (0, 1, 0, 1)), NOUGHT)
THIRD_NORM = [9, 0, 0, 0, 1]
CUBE = alone(Eight((1, 1, 0, 0), (0, 0, 1, 1)), NOUGHT, NOUGHT)
CUBE_NORM = [2, 0, 0, 2, 0, 0, 1]
FOURTH = alone(Eight((1, 0, 0, 1), (0, 2, -1, 0)), NOUGHT, NOUGHT, NOUGHT)
FOURTH_NORM = [2, 0, 0, 0, 2, 0, 0, 0, 1]


def plain_rows():
    """Rows of one to six hinges whose motions are plain: of like norms, of unlike ones, of some of both."""
    return [
        [UP], [SIDE], [UP, SIDE], [SIDE, UP], [UP, UP], [UP, LEVEL], [LEVEL, BESIDE, UP], [UP, SIDE, LEVEL],
        [FAST, SLOW, WIDE], [UP, SIDE, FAST, LEVEL], [FAST, UP, SLOW, SIDE], [UP, LEVEL, BESIDE, SLANT],
        [SIDE, SLANT, WIDE, UP, SLOW], [UP, SIDE, FAST, SLOW, WIDE, LEVEL],
    ]


def rowless_motions():
    """Plain motions with a reason why they have no row."""
    return [
        SQUARE, THIRD, CUBE, FOURTH, SQUARE * TURN, TURN * SQUARE, hinge_motion(SIDE) * SQUARE * hinge_motion(FAST),
        SQUARE * THIRD, CUBE * TURN, Motion([UP, NOUGHT, NOUGHT, ONE]),
    ]


def motions_not_plain():
    """Motions with a part of numbers: a hinge times its conjugate, and others."""
    go = alone(Eight((0, 0, 0, 0), (0, 1, 0, 0)))
    near = Eight((0, 0, 0, -1), (0, 1, 1, 0))
    return [
        TURN * TURN.mirror(), row_motion([UP, near]), go, alone(Eight((3, 0, 0, 0))), alone(ONE, NOUGHT),
        BOTH * BOTH.mirror(), go * BOTH, row_motion([SIDE, UP, near]), row_motion([UP, near, SIDE, FAST, SLOW]),
        row_motion([UP, near] * 3),
    ]


def plain_motions():
    return [row_motion(row) for row in plain_rows()] + rowless_motions()


def lifted(poly):
    """The eights of a polynomial of numbers."""
    return [Eight((number, 0, 0, 0)) for number in poly]


def wrong_divisors(norm):
    """Values that are no divisor of degree 2 and more, with head 1, of the norm, which has none of degree 1."""
    scaled_norms = [[2 * number for number in norm], [Ratio(-1) * number for number in norm], [*norm, 1]]
    return wrong_polys() + scaled_norms + [
        [], (), [0], [1], (1, 0), [2], [1, 1], [7, 1], [1, 0, Ratio(1, 2)], [17, 0, 1], [17, 1, 3, 1],
        made_of(norm, norm), made_of(norm, [0, 1]), [0] * 24 + [1],
    ]


def refuses_polys(case, action):
    """The action of one polynomial takes those of degree 0 to 8 alone."""
    case.refuses_each(InvalidPoly, [*wrong_polys(), [1] * 26], action)
    for nought in ([], (), [0], [0, Ratio(0)] * 12):
        case.refuses(NoughtPoly, {}, action, nought)
    for high in ([0] * 9 + [1], [1] * 10, (1,) * 25, [0] * 24 + [Ratio(-1, 2)]):
        case.refuses(TooMany, {"what": "degree", "limit": 8}, action, high)
    action([1] * 9 + [0] * 16)


def refuses_divisors(case, action, norm):
    case.refuses_each(InvalidDivisor, wrong_divisors(norm), action)
