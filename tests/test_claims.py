"""Claims, contraries and papers (points 93, 94)."""

from hingerows.chains import is_opening
from hingerows.changes import led_motion
from hingerows.claims import contrary, is_claim, is_paper_of, is_true, paper_of, words
from hingerows.closing import chain_of_four, is_chain_of_four
from hingerows.divisions import right_divided
from hingerows.eights import Eight
from hingerows.errors import InvalidClaim
from hingerows.exchanges import exchanged
from hingerows.likeness import is_alike
from hingerows.motions import Motion, hinge_motion, row_motion
from hingerows.parts import left_part
from hingerows.places import spots_at
from hingerows.ratios import Ratio
from hingerows.reasons import is_why_no_row
from hingerows.resting import rests
from hingerows.rows import a_row, is_row_of
from tests.helpers import (
    BOTH, CUBE, FAST, LEVEL, NOUGHT, ONE, SIDE, SLOW, SQUARE, SQUARE_NORM, TURN, UP, WIDE, Case, alone, as_ratios,
    as_tuples, made_of, motions_not_plain, norm_of, plain_motions, plain_rows, some_poses, strangers, wrong_hinges,
    wrong_motions, wrong_points, wrong_rows,
)

PAIRS = [
    ("row", "rowless"), ("closes", "opens"), ("ends", "lacks"), ("rests", "moves"), ("alike", "unlike"),
    ("four", "broken"),
]
LONG = [UP, SIDE, FAST, SLOW, WIDE, LEVEL]
RING = list(chain_of_four(UP, SIDE))
GO = alone(Eight((0, 0, 0, 0), (0, 1, 0, 0)))


def true_claims():
    """True claims of each word, ordinary ones and edges."""
    conjugates = [UP, UP.mirror()], [LEVEL, LEVEL.mirror()]
    moved = led_motion(BOTH, some_poses(3)[2])
    return [
        ("row", TURN), ("row", BOTH), ("row", row_motion([UP, LEVEL])), ("row", row_motion([FAST, UP, SLOW, SIDE])),
        ("rowless", SQUARE), ("rowless", CUBE), ("rowless", SQUARE * BOTH),
        ("rowless", Motion([UP, NOUGHT, NOUGHT, ONE])),
        ("closes", [UP], [UP]), ("closes", [UP, SIDE], exchanged([UP, SIDE], 0)), ("closes", *conjugates),
        ("closes", LONG, exchanged(LONG, 2)), ("closes", tuple(LONG), exchanged(LONG, 4)),
        ("opens", [UP], [SIDE]), ("opens", [UP], (UP, UP.mirror())), ("opens", LONG, LONG[::-1]),
        ("opens", [UP, UP.mirror()], [SIDE, SIDE.mirror()]), ("opens", [SIDE], LONG),
        ("ends", BOTH, hinge_motion(SIDE)), ("ends", BOTH, BOTH), ("ends", row_motion(LONG), row_motion(LONG[3:])),
        ("ends", GO * BOTH, BOTH), ("ends", SQUARE * TURN, TURN),
        ("lacks", BOTH, TURN), ("lacks", TURN, BOTH), ("lacks", row_motion(LONG), row_motion(LONG[:3])),
        ("lacks", GO, TURN), ("lacks", BOTH, GO), ("lacks", SQUARE * TURN, SQUARE),
        ("rests", TURN, (0, 0, 5)), ("rests", TURN, [0, 0, Ratio(-1, 2)]),
        ("rests", row_motion([UP, UP.times(2)]), (0, 0, 0)),
        ("rests", row_motion([UP + ONE.times(at) for at in range(6)]), (0, 0, 1)),
        ("moves", TURN, (1, 0, 0)), ("moves", BOTH, [0, 0, 0]), ("moves", SQUARE, (0, Ratio(1, 3), 0)),
        ("moves", row_motion(LONG), (1, 2, 3)),
        ("alike", TURN, hinge_motion(LEVEL)), ("alike", BOTH, moved), ("alike", GO, GO),
        ("alike", row_motion(LONG), led_motion(row_motion(LONG), some_poses(1)[0])),
        ("unlike", TURN, BOTH), ("unlike", TURN, hinge_motion(SIDE)), ("unlike", alone(NOUGHT), GO),
        ("four", RING), ("four", tuple(chain_of_four(FAST, SLOW))), ("four", [UP, UP.mirror(), LEVEL.mirror(), LEVEL]),
        ("broken", [UP, SIDE, FAST, SLOW]), ("broken", [UP, SIDE, UP, SIDE]), ("broken", (*RING[:3], RING[3] + ONE)),
        ("broken", [UP, UP.mirror(), SIDE.mirror(), SIDE]),
    ]


def other_word(word):
    return [two if word == one else one for one, two in PAIRS if word in (one, two)][0]


def turned_claims():
    """The contraries of the true claims, put together here."""
    return [(other_word(claim[0]), *claim[1:]) for claim in true_claims()]


def no_claims():
    """Values that are no claims."""
    found = strangers() + [0, (), [], ("row",), ["row", TURN], [*RING], TURN, UP, ("rows", TURN), ("", TURN),
                           (None, TURN),
                           (0, TURN), ("Row", TURN), ("hinge", UP), (("row", "rowless"), TURN), ("row", "rowless")]
    for one, two in PAIRS:
        for word in (one, two):
            found.extend([(word,), (word, None), (word, TURN, TURN, TURN), (word, [UP], [UP], [UP]), [word, TURN]])
    for wrong in wrong_motions():
        found.extend([("row", wrong), ("ends", wrong, BOTH), ("lacks", BOTH, wrong), ("rests", wrong, (0, 0, 0))])
        found.extend([("unlike", wrong, BOTH), ("alike", BOTH, wrong)])
    for wrong in wrong_rows():
        found.extend([("closes", wrong, [UP]), ("opens", [UP], wrong), ("four", wrong)])
    for wrong in wrong_points():
        found.extend([("rests", TURN, wrong), ("moves", TURN, wrong)])
    for wrong in wrong_hinges():
        found.extend([("broken", [*RING[:at], wrong, *RING[at + 1:]]) for at in range(4)])
    for motion in motions_not_plain():
        found.extend([("row", motion), ("rowless", motion), ("rests", motion, (0, 0, 0)), ("moves", motion, (0, 0, 0))])
    for row in plain_rows():
        if len(row) > 4:
            found.extend([("row", row_motion(row)), ("rowless", row_motion(row))])
    found.extend([
        ("row", BOTH, BOTH), ("rowless", [UP]), ("closes", BOTH, BOTH), ("closes", [UP]), ("ends", [UP], [UP]),
        ("rests", (0, 0, 0), TURN), ("four", RING[:3]), ("four", RING + [UP]), ("four", *RING), ("four", RING, RING),
        ("four", [UP, SIDE, SIDE, UP]), ("broken", [UP, SIDE, FAST, UP]), ("alike", UP, UP), ("moves", TURN),
    ])
    return found


def truth_of(claim):
    """Whether the claim is true, by the words of the table."""
    word, *parts = claim
    tests = {
        "row": lambda motion: a_row(motion) is not None,
        "closes": lambda row, other: row_motion(row) == row_motion(other),
        "ends": lambda motion, other: right_divided(motion, other)[1] == [],
        "rests": rests,
        "alike": lambda motion, other: paper_of(("alike", motion, other)) is not None,
        "four": is_chain_of_four,
    }
    if word in tests:
        return tests[word](*parts)
    return not tests[other_word(word)](*parts)


class WordsTest(Case):
    def test_words(self):
        self.assertEqual(PAIRS, words())
        words().clear()
        self.assertEqual(PAIRS, words())
        self.assertTrue(all(pair.__class__ is tuple for pair in words()))


class IsClaimTest(Case):
    def test_claims(self):
        for claim in true_claims() + turned_claims():
            self.assertBool(True, is_claim(claim))
            self.assertBool(True, is_claim(value=as_tuples(claim)))
            self.assertBool(True, is_claim((claim[0], *as_ratios(list(claim[1:])))))

    def test_no_claims(self):
        for value in no_claims():
            with self.subTest(value=repr(value)[:200]):
                self.assertBool(False, is_claim(value))

    def test_motions_up_to_the_limits(self):
        for motion in plain_motions():
            self.assertBool(motion.degree <= 4, is_claim(("row", motion)))
            self.assertBool(motion.degree <= 4, is_claim(("rowless", motion)))
            self.assertBool(True, is_claim(("moves", motion, (1, 2, 3))))
            self.assertBool(True, is_claim(("ends", motion, motion)))

    def test_what_asks_for_a_claim(self):
        for action in (is_true, contrary, paper_of, lambda claim: is_paper_of(claim, None)):
            for value in no_claims():
                self.refuses(InvalidClaim, {"value": value}, action, value)
        self.refuses(InvalidClaim, {"value": ["row", TURN]}, is_paper_of, claim=["row", TURN], value=[UP])


class IsTrueTest(Case):
    def test_just_one_of_a_claim_and_its_contrary(self):
        for claim, turned in zip(true_claims(), turned_claims()):
            self.assertBool(True, is_true(claim))
            self.assertBool(False, is_true(claim=turned))
            self.assertBool(True, truth_of(claim))
            self.assertBool(False, truth_of(turned))

    def test_of_many_motions(self):
        for motion in plain_motions():
            if motion.degree <= 4:
                self.assertBool(a_row(motion) is not None, is_true(("row", motion)))
                self.assertBool(a_row(motion) is None, is_true(("rowless", motion)))
            for point in ((0, 0, 0), (0, 0, 1)):
                self.assertBool(rests(motion, point), is_true(("rests", motion, point)))
                self.assertBool(not rests(motion, point), is_true(("moves", motion, point)))


class ContraryTest(Case):
    def test_the_other_word_and_the_same_parts(self):
        for claim, turned in zip(true_claims(), turned_claims()):
            self.assertEqual(turned, contrary(claim))
            self.assertEqual(claim, contrary(claim=turned))
            self.assertEqual(claim, contrary(contrary(claim)))
            self.assertEqual([tuple] + [part.__class__ for part in claim[1:]],
                             [contrary(claim).__class__] + [part.__class__ for part in contrary(claim)[1:]])

    def test_lists_are_copied(self):
        row, other, point, ring = [UP], [UP, SIDE], [0, 0, 5], list(RING)
        for claim in (("closes", row, other), ("moves", TURN, point), ("broken", ring)):
            for part in contrary(claim)[1:]:
                if isinstance(part, list):
                    part.clear()
        self.assertEqual(([UP], [UP, SIDE], [0, 0, 5], RING), (row, other, point, ring))


def papers():
    """Papers of each claim, told here by the words of the table, and by the program."""
    found = []
    for claim in true_claims():
        found.append((claim, paper_of(claim)))
    reason = made_of(SQUARE_NORM)
    found.extend([
        (("row", TURN), [UP]), (("row", TURN), (UP,)), (("row", BOTH), exchanged([UP, SIDE], 0)),
        (("rowless", SQUARE), [1, 0, 0, 0, 1]), (("rowless", SQUARE), (*reason, 0)),
        (("closes", [UP], [UP]), TURN), (("closes", [UP, SIDE], exchanged([UP, SIDE], 0)), Motion(BOTH.eights())),
        (("opens", [UP], [SIDE]), 0), (("opens", [UP], [SIDE]), Ratio(-7, 3)), (("opens", [UP], [SIDE]), 10 ** 9),
        (("ends", BOTH, hinge_motion(SIDE)), [-UP, ONE]), (("ends", BOTH, BOTH), (ONE,)), (("ends", BOTH, BOTH), [ONE]),
        (("lacks", BOTH, TURN), right_divided(BOTH, TURN)), (("lacks", TURN, BOTH), ([], [-UP, ONE])),
        (("lacks", TURN, BOTH), ((), (-UP, ONE))), (("lacks", TURN, BOTH), ([], (-UP, ONE))),
        (("rests", TURN, (0, 0, 5)), [0, 1, 2]), (("rests", TURN, (0, 0, 5)), (Ratio(1, 2), -3, 100)),
        (("moves", TURN, (1, 0, 0)), (0, 1)), (("moves", TURN, (1, 0, 0)), (Ratio(-5, 2), 3)),
        (("alike", TURN, TURN), ONE), (("alike", TURN, TURN), UP + ONE.times(2)), (("unlike", TURN, BOTH), ()),
        (("four", RING), BOTH), (("broken", [UP, SIDE, UP, SIDE]), 0),
    ])
    return found


def no_papers():
    """Values that are a paper of none of these claims, or of a few alone."""
    return strangers() + [
        [], (), [0], (0,), (0, 0), (0, 1, 2), [0, 1], [0, 0, 1], [0, 1, 2, 3], [[], []], ([], []), ([],), (1, True),
        (None, 1), ((), ()), [UP], [SIDE], (SIDE, UP), [UP, SIDE], [ONE], (ONE,), [NOUGHT], [UP, None], [None], TURN,
        BOTH,
        SQUARE, [TURN], ONE, UP, NOUGHT, Eight((1, 0, 0, 0), (1, 0, 0, 0)), [1], [1, 0, 1], [2, 0, 0, 0, 2], "0", 0, 1,
        Ratio(1, 2), [[-UP, ONE], []], ([-UP, ONE], []), ([-UP, ONE], [], []), ("0", "1"), [0, 1, None], [0, 1, True],
    ]


class PapersTest(Case):
    def test_exactly_a_true_claim_has_a_paper(self):
        for claim, turned in zip(true_claims(), turned_claims()):
            self.assertIsNone(paper_of(turned))
            paper = paper_of(claim=claim)
            self.assertIsNotNone(paper)
            self.assertBool(True, is_paper_of(claim, paper))
            self.assertBool(False, is_paper_of(claim=turned, value=paper))
            self.assertEqual(repr(paper), repr(paper_of(as_tuples(claim))))
            self.assertEqual(repr(paper), repr(paper_of(claim)))

    def test_papers(self):
        for claim, paper in papers():
            with self.subTest(claim=repr(claim)[:200]):
                self.assertBool(True, is_paper_of(claim, paper))
                self.assertBool(False, is_paper_of(contrary(claim), paper))
                self.assertBool(True, is_paper_of(as_tuples(claim), paper))

    def test_no_value_is_a_paper_of_both_or_of_what_is_not_true(self):
        values = no_papers() + [paper for _, paper in papers()]
        for claim, turned in zip(true_claims(), turned_claims()):
            if not any(isinstance(part, Motion) and part.degree > 3 for part in claim):
                for value in values:
                    self.assertBool(False, is_paper_of(turned, value))
                    self.assertBool(self.told(claim, value), is_paper_of(claim, value))

    def told(self, claim, value):
        """Whether the value is a paper, by the words of the table."""
        word, *parts = claim
        if word == "row":
            return is_row_of(parts[0], value)
        if word == "rowless":
            return is_why_no_row(parts[0], value)
        if word == "closes":
            return isinstance(value, Motion) and row_motion(parts[0]) == value
        if word == "opens":
            return is_opening(*parts, value)
        if word == "ends":
            return isinstance(value, (list, tuple)) and list(value) == right_divided(*parts)[0]
        if word == "lacks":
            good = isinstance(value, tuple) and len(value) == 2
            return good and all(isinstance(part, (list, tuple)) for part in value) and tuple(
                [list(part) for part in value]) == right_divided(*parts)
        if word == "rests":
            return isinstance(value, (list, tuple)) and self.stands(parts, value)
        if word == "moves":
            good = isinstance(value, tuple) and len(value) == 2 and all(self.is_number(one) for one in value)
            return good and spots_at(*parts, value[0]) != spots_at(*parts, value[1])
        if word == "alike":
            return is_alike(*parts, value)
        if word == "unlike":
            return isinstance(value, tuple) and value == ()
        one, two, three, four = parts[0]
        if word == "four":
            return isinstance(value, Motion) and row_motion([one, two]) == value
        return is_opening([one, two], [four, three], value)

    def is_number(self, value):
        return isinstance(value, Ratio) or (isinstance(value, int) and not isinstance(value, bool))

    def stands(self, parts, value):
        motion, point = parts
        if len(value) != 2 * motion.degree + 1 or not all(self.is_number(one) for one in value):
            return False
        told = [str(as_ratios(one)) for one in value]
        here = as_ratios(tuple(point))
        return len(set(told)) == len(told) and all(spots_at(motion, point, one) == here for one in value)

    def test_kinds_of_what_is_told(self):
        kinds = {
            "row": list, "rowless": list, "closes": Motion, "opens": Ratio, "ends": list, "lacks": tuple, "rests": list,
            "moves": tuple, "alike": Eight, "unlike": tuple, "four": Motion, "broken": Ratio,
        }
        for claim in true_claims():
            paper = paper_of(claim)
            self.assertIs(kinds[claim[0]], paper.__class__)
            if claim[0] in ("rests", "moves", "rowless"):
                self.assertTrue(all(number.__class__ is Ratio for number in paper))
            if claim[0] == "lacks":
                self.assertEqual([list, list], [part.__class__ for part in paper])
        self.assertEqual(sorted(kinds), sorted(set(claim[0] for claim in true_claims())))

    def test_resting_points_want_just_so_many_numbers(self):
        for degree in range(1, 7):
            claim = ("rests", row_motion([UP + ONE.times(at) for at in range(degree)]), (0, 0, 1))
            many = 2 * degree + 1
            numbers = [Ratio(at, 7) for at in range(-3, many - 3)]
            self.assertBool(True, is_paper_of(claim, numbers))
            self.assertBool(True, is_paper_of(claim, tuple(numbers)))
            self.assertBool(False, is_paper_of(claim, numbers[1:]))
            self.assertBool(False, is_paper_of(claim, numbers + [Ratio(50)]))
            self.assertBool(False, is_paper_of(claim, numbers[1:] + numbers[-1:]))
            self.assertBool(False, is_paper_of(claim, [0, Ratio(0), *range(1, many - 1)]))

    def test_a_point_that_stands_still_at_some_numbers(self):
        # This motion is told by t t alone, so it stands alike at a number and at that with the other sign.
        claim = ("moves", SQUARE, (0, Ratio(1, 3), 0))
        for number in (1, Ratio(2, 3)):
            same = spots_at(SQUARE, (0, Ratio(1, 3), 0), number) == spots_at(SQUARE, (0, Ratio(1, 3), 0), -1 * number)
            self.assertTrue(same)
            self.assertBool(False, is_paper_of(claim, (number, -1 * number)))
        self.assertBool(True, is_paper_of(claim, (1, 2)))
        self.assertBool(False, is_paper_of(claim, [1, 2]))
        self.assertBool(False, is_paper_of(claim, (1, 1)))

    def test_lists_and_tuples_within_papers(self):
        claim = ("lacks", BOTH, TURN)
        quotient, rest = right_divided(BOTH, TURN)
        self.assertBool(True, is_paper_of(claim, (tuple(quotient), tuple(rest))))
        self.assertBool(False, is_paper_of(claim, [quotient, rest]))
        self.assertBool(False, is_paper_of(claim, (quotient, [])))
        self.assertBool(False, is_paper_of(claim, (quotient, [ONE])))
        self.assertBool(False, is_paper_of(claim, ([ONE], rest)))
        self.assertBool(False, is_paper_of(claim, ([], rest)))
        self.assertBool(False, is_paper_of(claim, (rest, quotient)))
        self.assertBool(False, is_paper_of(("ends", BOTH, BOTH), ([ONE], [])))
        self.assertBool(False, is_paper_of(("unlike", TURN, BOTH), []))

    def test_returned_lists_are_new(self):
        for claim in true_claims():
            paper = paper_of(claim)
            before = repr(paper)
            for part in [paper, *(paper if isinstance(paper, tuple) else ())]:
                if isinstance(part, list):
                    part.append(None)
            self.assertEqual(before, repr(paper_of(claim)))

    def test_left_parts_are_no_ends(self):
        part = left_part(BOTH, norm_of(SIDE))
        self.assertBool(False, is_true(("ends", BOTH, part)))
        self.assertBool(True, is_true(("lacks", BOTH, part)))
