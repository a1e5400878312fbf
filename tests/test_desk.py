"""The desk: words and their answers, what is kept, states, errors (points 95 to 98)."""

from hingerows.bennett import is_bennett
from hingerows.changes import changed, led_motion, led_row
from hingerows.desk import Desk
from hingerows.eights import Eight
from hingerows.errors import (
    HeadNotOne, InvalidClaim, InvalidCommand, InvalidDivisor, InvalidEights, InvalidHinge, InvalidHinges, InvalidPlace,
    InvalidPose, InvalidPosition, InvalidRow, InvalidScale, InvalidTable, LabelTaken, NameTaken, NoPose, NotMotion,
    NothingToRedo, NothingToUndo, NotPlain, NotUndone, SamePoint, TooMany, UnknownLabel, UnknownName, WrongThing,
)
from hingerows.exchanges import exchanged
from hingerows.lines import hinge_by, line_through
from hingerows.motions import Motion, hinge_motion, row_motion
from hingerows.parts import right_part
from hingerows.poses import led
from hingerows.ratios import Ratio
from tests.helpers import BOTH, ONE, SIDE, TURN, UP, Case, as_ratios, strangers
from tests.test_commands import COMMANDS, claim_lines

BARE = Eight((0, 0, 0, 0), (1, 0, 0, 0))
START = [
    "eight a 0,0,0,1;0,0,0,0", "eight b 0,2,0,0;0,0,0,-2", "point p 0,0,3", "row r a,b", "make m r",
    "eight one 1,0,0,0;0,0,0,0",
]
# One more name is free behind START and these.
MORE = ["eight x 1,2,0,0;0,0,0,1", "row q a", "make t q"]


def full_desk():
    desk = Desk()
    desk.do_all(*START, *MORE)
    return desk


def told(desk):
    """All that can be seen of a desk."""
    seen = [desk.names, desk.labels, len(desk), repr([desk[name] for name in desk.names]), desk.lines()]
    seen.append([repr(desk.claim_of(label)) for label in desk.labels])
    seen.append([desk.fits(label) for label in desk.labels])
    seen.append(desk.do("states"))
    again = desk.copy()
    taken = []
    try:
        while True:
            taken.append(again.do("redo"))
    except NothingToRedo:
        pass
    return [*seen, taken]


class DeskCase(Case):
    def fails(self, desk, error, named, *commands):
        """Each command fails on the desk with this error, and nothing has changed behind it."""
        before = told(desk)
        for command in commands:
            with self.subTest(command=command):
                self.refuses(error, named, desk.do, command)
                self.refuses(error, named, desk, command)
        self.assertEqual(before, told(desk))

    def answers(self, desk, *pairs):
        for command, expected in pairs:
            with self.subTest(command=command):
                self.assertEqual(expected, desk.do(command))


class KeepingTest(DeskCase):
    def test_at_first_nothing(self):
        desk = Desk()
        self.assertEqual(([], [], 0, []), (desk.names, desk.labels, len(desk), desk.lines()))
        self.answers(desk, ("names", "-"), ("states", "-"))
        self.fails(desk, NothingToUndo, {}, "undo")
        self.fails(desk, NothingToRedo, {}, "redo")

    def test_what_is_kept(self):
        desk = Desk()
        for line in START:
            self.assertEqual("-", desk.do(command=line))
        kept = {"a": UP, "b": SIDE, "p": as_ratios((0, 0, 3)), "r": [UP, SIDE], "m": BOTH, "one": ONE}
        self.assertEqual(sorted(kept), desk.names)
        self.assertEqual("a b m one p r", desk("names"))
        for name, thing in kept.items():
            self.assertEqual(thing, desk[name])
            self.assertIs(thing.__class__, desk[name].__class__)
            self.assertBool(True, name in desk)
        self.assertEqual(6, len(desk))

    def test_unknown_names(self):
        desk = full_desk()
        desk.do("claim c row m")
        for value in strangers() + ["c", "z", "A", "a ", 0, ["a"], ("a",), UP, [], "names"]:
            self.assertBool(False, value in desk)
            self.refuses(UnknownName, {"value": value}, desk.__getitem__, value)
            with self.assertRaises(UnknownName):
                desk[value]

    def test_a_desk_is_not_iterated_over(self):
        self.assertRaises(TypeError, iter, Desk())

    def test_what_is_told_is_new(self):
        desk = full_desk()
        desk.do("claim c closes r r")
        desk["r"].clear()
        desk.names.clear()
        desk.labels.clear()
        desk.lines().clear()
        desk.claim_of("c")[1].clear()
        self.assertEqual([UP, SIDE], desk["r"])
        self.assertEqual((9, 1, 10), (len(desk.names), len(desk.labels), len(desk.lines())))
        self.assertEqual(("closes", [UP, SIDE], [UP, SIDE]), desk.claim_of("c"))

    def test_a_row_stays_as_it_was_made(self):
        desk = full_desk()
        desk.do_all("drop a", "drop b", "point a 1,2,3", "exchange r 0", "drop r")
        self.assertEqual(BOTH, desk["m"])
        self.assertEqual([UP], desk["q"])

    def test_copies_of_each_kind(self):
        desk = Desk()
        desk.do_all("eight a 0,0,0,1;0,0,0,0", "row r a", "make m r", "point p 1,1/2,0")
        for name in ("a", "r", "m", "p"):
            self.answers(desk, (f"copy {name}2 {name}", "-"))
            self.assertEqual(desk[name], desk[f"{name}2"])
        desk.do_all("more r2 a", "lead p2 a", "change m2 1,1;0,1")
        self.assertEqual(([UP], TURN, as_ratios((1, Ratio(1, 2), 0))), (desk["r"], desk["m"], desk["p"]))


class MakingTest(DeskCase):
    def made(self, *lines):
        desk = full_desk()
        self.assertEqual(["-"] * len(lines), desk.do_all(*lines))
        return desk[lines[-1].split(" ")[1]]

    def test_new_things(self):
        half = Ratio(1, 2)
        for line, expected in (
            ("eight n 1/2,0,-3,0;0,1,0,2/3", Eight((half, 0, -3, 0), (0, 1, 0, Ratio(2, 3)))),
            ("point n -1/2,0,999999", as_ratios((Ratio(-1, 2), 0, 999999))),
            ("hinge n 1,0,0 1,1,0 3 -2", hinge_by(line_through((1, 0, 0), (1, 1, 0)), 3, -2)),
            ("row n b,a,a", [SIDE, UP, UP]), ("row n a", [UP]), ("row n a,a,a,a,a,b", [UP] * 5 + [SIDE]),
            ("motion n a,one", Motion([UP, ONE])), ("make n q", TURN),
            ("solve n m 1", exchanged([UP, SIDE], 0)), ("solve n m 0", [UP, SIDE]),
            ("part n m 4,0,1", hinge_motion(SIDE)),
            ("part n m 1,0,1,0", right_part(BOTH, [1, 0, 1])), ("copy n m", BOTH), ("copy n p", as_ratios((0, 0, 3))),
            ("times n a b", UP * SIDE), ("times n m t", BOTH * TURN), ("times n a a", UP * UP),
            ("undone n b", SIDE.undone()), ("undone n x", Eight((1, 2, 0, 0), (0, 0, 0, 1)).undone()),
            ("mirror n b", SIDE.mirror()), ("mirror n m", BOTH.mirror()),
        ):
            found = self.made(line)
            self.assertEqual(expected, found)
            self.assertIs(expected.__class__, found.__class__)

    def test_things_that_are_changed(self):
        table = ((1, Ratio(2, 3)), (-1, 5))
        for line, expected in (
            ("exchange r 0", exchanged([UP, SIDE], 0)), ("lead p b", led(SIDE, (0, 0, 3))),
            ("lead r x", led_row([UP, SIDE], Eight((1, 2, 0, 0), (0, 0, 0, 1)))), ("lead m b", led_motion(BOTH, SIDE)),
            ("change m 1,2/3;-1,5", changed(BOTH, table)), ("more r b", [UP, SIDE, SIDE]), ("less r 0", [SIDE]),
            ("less r 1", [UP]),
        ):
            self.assertEqual(expected, self.made(line))

    def test_what_is_made_is_used_again(self):
        self.assertEqual(row_motion([SIDE, UP, UP]), self.made("row n b,a,a", "drop x", "make k n"))
        self.assertEqual([SIDE, UP], self.made("less r 0", "more r a"))
        self.assertEqual(UP, self.made("undone n a", "drop x", "mirror k n"))

    def test_dropped(self):
        desk = full_desk()
        for at, name in enumerate(desk.names):
            self.answers(desk, (f"drop {name}", "-"))
            self.assertBool(False, name in desk)
            self.assertEqual(8 - at, len(desk.names))
        self.answers(desk, ("names", "-"), ("point a 0,0,0", "-"), ("names", "a"))


class AnsweringTest(DeskCase):
    def test_one_of_each_word(self):
        desk = full_desk()
        desk.do_all("point o 1,0,0", "claim c row m", "claim b closes r q", "claim a moves t p")
        self.answers(
            desk, ("state c", "true"), ("state b", "false"), ("states", "a false, b false, c true"),
            ("claimed c", "row m"), ("claimed b", "closes r q"), ("claimed a", "moves t p"),
            ("names", "a b m o one p q r t x"), ("shown a", "eight 0,0,0,1;0,0,0,0"), ("shown p", "point 0,0,3"),
            ("shown r", "row 0,0,0,1;0,0,0,0 0,2,0,0;0,0,0,-2"), ("shown q", "row 0,0,0,1;0,0,0,0"),
            ("shown t", "motion 0,0,0,-1;0,0,0,0 1,0,0,0;0,0,0,0"),
            ("shown m", "motion 0,0,2,0;2,0,0,0 0,-2,0,-1;0,0,0,2 1,0,0,0;0,0,0,0"),
            ("norm a", "1,0"), ("norm x", "5,0"), ("norm m", "4,0,5,0,1"), ("norm t", "1,0,1"),
            ("line a", "0,0,1;0,0,0"),
            ("line b", "1,0,0;0,0,-1"), ("far a b", "1"), ("sine a b", "1"), ("sine a a", "0"), ("far a a", "0"),
            ("kind a b", "apart"), ("kind a a", "one"), ("same a a", "yes"), ("same a b", "no"), ("between a b", "-2"),
            ("between a one", "0"), ("degree m", "2"), ("degree t", "1"), ("plain m", "yes"), ("rows m", "2"),
            ("rows t", "1"),
            ("frames m", "2"), ("frames t", "4"), ("within t m", "no"), ("within m m", "yes"), ("spot t o 1", "0,-1,0"),
            ("spot t o 1/2", "-3/5,-4/5,0"), ("fallen t p", "1,0,1"), ("fallen t o", "1"), ("state a", "false"),
        )
        self.assertEqual(13, len(desk))

    def test_other_kinds_of_lines_and_motions(self):
        desk = Desk()
        desk.do_all("hinge a 0,0,0 0,0,1 0 1", "hinge b 1,0,0 1,0,1 2 1/2", "hinge c 0,0,0 1,0,1 0 1", "row r a,b",
                    "eight k 0,0,0,-1;0,1,1,0", "row s a,k", "make m s", "hinge d 3,1,0 4,1,2 1 1")
        self.answers(
            desk, ("kind a b", "parallel"), ("far a b", "1"), ("sine a b", "0"), ("kind a c", "meet"), ("far a c", "0"),
            ("sine a c", "1/2"), ("kind a d", "apart"), ("plain m", "no"), ("line d", "1,0,2;2,-6,-1"),
            ("norm b", "17/4,0"),
            ("same a k", "no"), ("norm m", "1,0,2,0,1"),
        )

    def test_four_hinges(self):
        desk = Desk()
        desk.do_all(*START, "row s a,b", "exchange s 0", "row k a,b,a,b", "row l a,a,b,b")
        self.answers(desk, ("bennett k", "yes"), ("bennett l", "no"))
        self.assertBool(True, is_bennett(desk["k"]))

    def test_motions_without_rows(self):
        desk = Desk()
        desk.do_all("eight o 0,0,0,0;0,0,0,0", "eight u 0,1,0,0;0,0,0,0", "eight e 1,0,0,0;0,0,0,0", "motion m u,o,e")
        self.answers(desk, ("rows m", "0"), ("norm m", "1,0,0,0,1"), ("claim c rowless m", "c true"), ("degree m", "2"),
                     ("claim d row m", "d false"))
        self.fails(desk, InvalidPosition, {"value": 0}, "solve n m 0")

    def test_great_numbers_in_answers(self):
        desk = Desk()
        desk.do_all("eight a 999999/999998,1/999997,0,999983;0,0,0,0")
        desk.do_all("times b a a", "times c b b")
        shown = desk.do("shown c")
        self.assertGreater(max(len(part) for part in shown.replace("/", ",").split(",")), 18)
        self.assertEqual(desk["c"], desk["a"] * desk["a"] * desk["a"] * desk["a"])

    def test_answers_change_nothing(self):
        desk = full_desk()
        desk.do_all("claim c row m", "drop x", "undo")
        before = told(desk)
        for command in ("names", "states", "state c", "claimed c", "shown m", "norm a", "line b", "far a b", "rows m"):
            desk.do(command)
        self.assertEqual(before, told(desk))
        self.assertEqual("drop x", desk.do("redo"))


class StatesTest(DeskCase):
    def test_changes_are_told(self):
        desk = Desk()
        self.answers(
            desk, *[(line, "-") for line in START], ("copy s r", "-"), ("claim k closes r s", "k true"),
            ("claim e opens r s", "e false"), ("claim row row m", "row true"), ("exchange s 0", "-"),
            ("less s 0", "e true, k false"), ("drop s", "e gone, k gone"), ("copy s p", "-"), ("state k", "gone"),
            ("drop s", "-"),
            ("copy s r", "e false, k true"), ("drop m", "row gone"), ("forget k", "-"), ("drop r", "e gone"),
            ("states", "e gone, row gone"), ("forget e", "-"), ("forget row", "-"), ("states", "-"),
        )

    def test_claims_of_every_word(self):
        desk = Desk()
        desk.do_all(*START, "row f a,b,a,b", "row q a", "make t q", "point o 0,0,0")
        for line, expected in (
            ("claim c row m", "true"), ("claim c rowless m", "false"), ("claim c closes r r", "true"),
            ("claim c opens r q", "true"), ("claim c ends m t", "false"), ("claim c lacks m t", "true"),
            ("claim c rests t p", "true"), ("claim c moves m o", "true"), ("claim c alike m t", "false"),
            ("claim c unlike t m", "true"), ("claim c four f", "false"), ("claim c broken f", "true"),
        ):
            self.answers(desk, (line, f"c {expected}"), ("state c", expected), ("claimed c", line[8:]),
                         ("forget c", "-"))

    def test_claim_of(self):
        desk = full_desk()
        desk.do_all("claim c row m", "claim d rests t p", "claim e closes r q", "claim f closes q r")
        self.assertEqual(("row", BOTH), desk.claim_of("c"))
        self.assertEqual(("rests", TURN, as_ratios((0, 0, 3))), desk.claim_of(label="d"))
        self.assertEqual(("closes", [UP, SIDE], [UP]), desk.claim_of("e"))
        desk.do_all("drop m", "drop q")
        self.assertIsNone(desk.claim_of("c"))
        self.assertIsNone(desk.claim_of("e"))
        desk.do("exchange r 0")
        desk.do("copy q r")
        self.assertEqual(("closes", exchanged([UP, SIDE], 0), exchanged([UP, SIDE], 0)), desk.claim_of("f"))

    def test_gone_and_back(self):
        desk = full_desk()
        self.answers(desk, ("claim c rests t p", "c true"), ("drop p", "c gone"), ("copy p a", "-"), ("drop p", "-"),
                     ("point p 1,0,0", "c false"), ("undo", "point p 1,0,0"), ("state c", "gone"),
                     ("redo", "point p 1,0,0"),
                     ("state c", "false"), ("lead p a", "-"), ("drop t", "c gone"), ("make t q", "c false"))

    def test_gone_while_there_is_no_claim(self):
        desk = Desk()
        desk.do_all(*START, "row f a,b,a,b", "claim c broken f", "claim d row m", "claim e moves m p")
        # Three hinges make no claim of four, neither do equal first and last ones.
        self.answers(desk, ("less f 0", "c gone"), ("more f b", "-"), ("state c", "gone"))
        self.assertIsNone(desk.claim_of("c"))
        self.answers(desk, ("less f 0", "-"), ("less f 0", "-"), ("less f 0", "-"))
        self.assertEqual([SIDE], desk["f"])
        # A motion that is not plain makes no claim of rows, nor of resting points.
        self.answers(desk, ("drop m", "d gone, e gone"), ("mirror k a", "-"), ("row g a,k", "-"), ("make m g", "-"))
        self.assertEqual((None, None), (desk.claim_of("d"), desk.claim_of("e")))
        self.answers(desk, ("states", "c gone, d gone, e gone"))

    def test_beyond_the_limits_there_is_no_claim(self):
        desk = Desk()
        desk.do_all(*START, "row f a,b,a,b,a", "make n f", "claim c row m", "claim d moves m p", "drop m")
        self.answers(desk, ("copy m n", "d true"), ("state c", "gone"), ("drop m", "d gone"),
                     ("make m r", "c true, d true"))
        self.fails(desk, InvalidClaim, {"value": ("row", desk["n"])}, "claim e row n")

    def test_a_label_that_is_a_name(self):
        desk = full_desk()
        self.answers(desk, ("claim m row m", "m true"), ("state m", "true"), ("drop m", "m gone"),
                     ("shown a", "eight 0,0,0,1;0,0,0,0"))
        self.assertEqual(["m"], desk.labels)
        self.assertBool(False, "m" in desk)

    def test_unknown_labels(self):
        desk = full_desk()
        for value in strangers() + ["c", "a", "m", 0, ["c"], UP]:
            self.refuses(UnknownLabel, {"value": value}, desk.claim_of, value)
            self.refuses(UnknownLabel, {"value": value}, desk.fits, value)
            self.refuses(UnknownLabel, {"value": value}, desk.attach, value, None)
        self.fails(desk, UnknownLabel, {"value": "m"}, "state m", "claimed m", "forget m")


class ErrorsTest(DeskCase):
    def test_what_is_no_command(self):
        desk = full_desk()
        for value in strangers() + ["", "name", "undo ", "row r", 0, ["undo"], "claim c rows m",
                                    "eight a 1,2,3;0,0,0,0"]:
            self.fails(desk, InvalidCommand, {"value": value}, value)

    def test_taken_names_and_labels(self):
        desk = full_desk()
        desk.do("claim c row m")
        self.fails(desk, NameTaken, {"name": "a"}, "eight a 1,0,0,0;0,0,0,0", "point a 0,0,0",
                   "hinge a 0,0,0 0,0,0 0 0",
                   "row a z,z", "motion a z", "make a z", "solve a z 9", "part a z 0", "copy a a", "times a z z",
                   "undone a p",
                   "mirror a r")
        self.fails(desk, LabelTaken, {"label": "c"}, "claim c row m", "claim c closes z z", "claim c moves p p")

    def test_unknown_names_in_their_sequence(self):
        desk = full_desk()
        self.fails(desk, UnknownName, {"value": "z"}, "row n a,z,y", "motion n z,y", "make n z", "solve n z 0",
                   "part n z 1",
                   "copy n z", "times n z y", "times n p z", "undone n z", "mirror n z", "exchange z 0", "lead z y",
                   "lead a z",
                   "change z 0,0;0,0", "more z y", "more a z", "less z 0", "drop z", "claim c row z",
                   "claim c rests p z",
                   "claim c closes z y", "shown z", "norm z", "line z", "far z y", "far p z", "sine z y", "kind z y",
                   "same p z",
                   "between z p", "degree z", "plain z", "rows z", "frames z", "within z y", "within a z", "spot z p 0",
                   "spot a z 0", "fallen z y", "bennett z", "copy z z")
        desk.do("claim c row m")
        self.fails(desk, UnknownName, {"value": "c"}, "drop c", "shown c", "make n c")

    def test_other_kinds_of_things(self):
        desk = full_desk()
        self.fails(desk, WrongThing, {"name": "p"}, "row n p", "row n a,p,r", "motion n a,p", "make n p", "solve n p 0",
                   "part n p 1", "times n p p", "times n a p", "times n m p", "undone n p", "mirror n p",
                   "exchange p 0",
                   "lead r p", "change p 1,0;0,1", "more p r", "more r p", "less p 0", "claim c row p",
                   "claim c closes r p",
                   "claim c ends p p", "claim c four p", "norm p", "line p", "far p r", "far a p", "sine p p",
                   "kind a p",
                   "same p r", "between a p", "degree p", "plain p", "rows p", "frames p", "within p r", "within m p",
                   "spot p m 0", "fallen p m", "bennett p")
        self.fails(desk, WrongThing, {"name": "r"}, "undone n r", "times n r a", "times n a r", "mirror n r",
                   "lead r r", "solve n r 0", "spot r p 0", "spot m r 0", "fallen m r", "claim c rests m r",
                   "claim c rests r r",
                   "norm r", "rows r", "times n m r")
        self.fails(desk, WrongThing, {"name": "a"}, "make n a", "times n m a", "lead a b", "more a b", "exchange a 0",
                   "rows a",
                   "claim c row a", "bennett a", "spot a p 0", "spot m a 0", "claim c alike a a")
        self.fails(desk, WrongThing, {"name": "m"}, "make n m", "times n a m", "undone n m", "row n m", "row n a,m",
                   "lead p m",
                   "line m", "far m a", "same a m", "bennett m", "exchange m 0", "less m 9", "claim c four m",
                   "claim c closes m r")

    def test_hinges(self):
        desk = full_desk()
        self.fails(desk, SamePoint, {}, "hinge n 1,2,3 1,2,3 0 1", "hinge n 0,0,0 0,0,0 0 0")
        self.fails(desk, InvalidScale, {"value": Ratio(0)}, "hinge n 1,2,3 1,2,4 0 0")
        self.fails(desk, InvalidHinge, {"value": ONE}, "line one", "far one a", "far a one", "sine one x", "kind a one",
                   "kind one one")
        # The first part of this one has a line, but its moment is not at right angles to it.
        desk.do("eight k 0,1,0,0;0,1,0,0")
        self.fails(desk, InvalidHinge, {"value": desk["k"]}, "line k", "far a k", "sine k one", "kind a k")

    def test_poses(self):
        desk = full_desk()
        desk.do("eight o 0,0,0,0;1,0,0,0")
        self.fails(desk, InvalidPose, {"value": BARE}, "lead p o", "lead r o", "lead m o", "same o a", "same a o",
                   "between o o",
                   "between one o")
        self.fails(desk, NotUndone, {}, "undone n o")

    def test_rows(self):
        desk = full_desk()
        self.fails(desk, InvalidRow, {"value": [UP, ONE]}, "row n a,one")
        self.fails(desk, InvalidRow, {"value": [UP] * 7}, "row n a,a,a,a,a,a,a")
        self.fails(desk, InvalidRow, {"value": [UP, SIDE, ONE]}, "more r one")
        self.fails(desk, InvalidRow, {"value": []}, "less q 0")
        desk.do_all("more r a", "more r a", "more r a", "more r a")
        self.fails(desk, InvalidRow, {"value": [UP, SIDE, UP, UP, UP, UP, SIDE]}, "more r b")
        self.fails(desk, InvalidPosition, {"value": 6}, "less r 6")
        self.fails(desk, InvalidPosition, {"value": 1}, "less q 1")
        self.fails(desk, InvalidPosition, {"value": 10 ** 29}, f"less r {10 ** 29}")
        self.fails(desk, InvalidPlace, {"value": 5}, "exchange r 5")
        self.fails(desk, InvalidPlace, {"value": 0}, "exchange q 0")
        self.fails(desk, InvalidHinges, {"position": None}, "bennett r", "bennett q")

    def test_motions(self):
        desk = full_desk()
        desk.do_all("eight o 0,0,0,0;1,0,0,0")
        self.fails(desk, InvalidEights, {"position": None}, "motion n one", "motion n a")
        self.fails(desk, HeadNotOne, {}, "motion n one,a", "motion n a,b,a", "motion n a,a,a,a,a,a,a")
        self.fails(desk, NotMotion, {}, "motion n o,one,one")
        self.fails(desk, TooMany, {"what": "names", "limit": 10}, "motion n one,one")
        desk.do_all("drop x", "times n m m")
        self.fails(desk, TooMany, {"what": "degree", "limit": 6}, "times k n n")
        desk.do_all("drop o", "times o n m")
        self.fails(desk, TooMany, {"what": "degree", "limit": 8}, "rows o")
        desk.do("drop p")
        self.fails(desk, TooMany, {"what": "degree", "limit": 8}, "solve k o 999")
        self.fails(desk, TooMany, {"what": "degree", "limit": 6}, "times k o t")
        self.answers(desk, ("degree o", "6"), ("plain o", "yes"))

    def test_motions_that_are_not_plain(self):
        desk = Desk()
        desk.do_all(*START, "mirror k a", "row s a,k", "make n s", "point o 1,0,0")
        self.answers(desk, ("plain n", "no"), ("frames n", "8"))
        self.fails(desk, NotPlain, {}, "rows n", "within n m", "within m n", "exchange s 0")
        self.fails(desk, InvalidClaim, {"value": ("row", desk["n"])}, "claim c row n")
        self.fails(desk, InvalidClaim, {"value": ("moves", desk["n"], as_ratios((1, 0, 0)))}, "claim c moves n o")
        desk.do("drop o")
        self.fails(desk, NotPlain, {}, "solve l n 0", "part l n 1,0,1")

    def test_parts_and_tables(self):
        desk = full_desk()
        one, two, nought = Ratio(1), Ratio(2), Ratio(0)
        self.fails(desk, InvalidDivisor, {"value": [one, one]}, "part n m 1,1")
        self.fails(desk, InvalidDivisor, {"value": [two, nought, nought]}, "part n m 2,0,0")
        self.fails(desk, InvalidPosition, {"value": 2}, "solve n m 2")
        self.fails(desk, InvalidTable, {"value": ((one, two), (one, two))}, "change m 1,2;1,2")
        self.fails(desk, InvalidTable, {"value": ((nought, nought), (nought, Ratio(1, 3)))}, "change t 0,0;0,1/3")

    def test_motions_without_a_pose(self):
        desk = Desk()
        desk.do_all(*START, "eight g 0,0,0,0;0,1,0,0", "motion n g,one", "eight o 0,0,0,0;0,0,0,0")
        self.fails(desk, NoPose, {}, "spot n p 0")
        self.fails(desk, NotUndone, {}, "change n 0,1;1,0", "undone l o")
        self.answers(desk, ("spot n p 1", "2,0,3"))

    def test_claims_that_are_none(self):
        desk = full_desk()
        desk.do("row f a,b,b,a")
        self.fails(desk, InvalidClaim, {"value": ("four", [UP, SIDE])}, "claim c four r")
        self.fails(desk, InvalidClaim, {"value": ("broken", [UP, SIDE, SIDE, UP])}, "claim c broken f")

    def test_ten_names(self):
        desk = full_desk()
        desk.do("point n 0,0,0")
        self.fails(desk, TooMany, {"what": "names", "limit": 10}, "point o 0,0,0", "copy o a", "row o a",
                   "hinge o 0,0,0 0,0,1 0 1",
                   "make o r", "part o m 1,0,1", "solve o m 1")
        # What is wrong with the thing itself comes ahead of the limit.
        self.fails(desk, InvalidRow, {"value": [ONE]}, "row o one")
        self.fails(desk, SamePoint, {}, "hinge o 0,0,0 0,0,0 0 1")
        self.fails(desk, UnknownName, {"value": "z"}, "copy o z")
        self.fails(desk, NameTaken, {"name": "n"}, "copy n z")
        self.answers(desk, ("exchange r 0", "-"), ("lead p a", "-"), ("drop n", "-"), ("point o 0,0,0", "-"))

    def test_twelve_labels(self):
        desk = full_desk()
        for at in range(12):
            self.answers(desk, (f"claim c{at} row m", f"c{at} true"))
        self.fails(desk, TooMany, {"what": "labels", "limit": 12}, "claim d row m", "claim d rests t p")
        self.fails(desk, InvalidClaim, {"value": ("four", [UP, SIDE])}, "claim d four r")
        self.fails(desk, LabelTaken, {"label": "c0"}, "claim c0 row m")
        self.assertEqual(sorted(f"c{at}" for at in range(12)), desk.labels)
        self.assertEqual(", ".join(f"{label} gone" for label in desk.labels), desk.do("drop m"))
        self.answers(desk, ("forget c3", "-"),
                     ("make m r", ", ".join(f"{label} true" for label in desk.labels if label != "c3")),
                     ("claim d row m", "d true"))

    def test_each_command_of_the_table_on_an_empty_desk(self):
        for line in [*COMMANDS.values(), *claim_lines()]:
            desk = Desk()
            word = line.split(" ")[0]
            if word in ("eight", "point", "hinge"):
                self.answers(desk, (line, "-"))
            elif word in ("names", "states"):
                self.answers(desk, (line, "-"))
            elif word in ("undo", "redo"):
                self.fails(desk, NothingToUndo if word == "undo" else NothingToRedo, {}, line)
            elif word in ("forget", "state", "claimed"):
                self.fails(desk, UnknownLabel, {"value": "c"}, line)
            else:
                self.assertRaises(UnknownName, desk.do, line)

    def test_a_claim_holds_its_own_lists(self):
        desk = full_desk()
        try:
            desk.do("claim c four r")
        except InvalidClaim as error:
            error.value[1].clear()
        self.assertEqual([UP, SIDE], desk["r"])
