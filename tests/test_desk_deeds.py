"""The desk: deeds taken back and done again, all or none, trials, copies, papers (points 95 to 98)."""

from hingerows.changes import led_motion
from hingerows.claims import paper_of
from hingerows.desk import Desk, Trial, tried
from hingerows.eights import Eight
from hingerows.errors import (
    CommandFailed, InvalidCommand, InvalidLines, InvalidPaper, InvalidRow, NameTaken, NothingToRedo, NothingToUndo,
    TooMany, UnknownLabel, UnknownName,
)
from hingerows.exchanges import exchanged
from hingerows.motions import Motion
from hingerows.ratios import Ratio
from tests.helpers import BOTH, ONE, SIDE, TURN, UP, as_ratios, strangers
from tests.test_desk import MORE, START, DeskCase, full_desk, told

DEEDS = [
    *START, "claim c row m", "hinge h 1,0,0 1,1,0 0 2", "exchange r 0", "more r a", "less r 0", "lead p h", "lead m h",
    "change m 1,1;0,1", "drop h", "forget c", "claim c opens r r", "copy n m", "part k n 5,2,1", "drop p",
]


def desk_with(*commands):
    desk = full_desk()
    desk.do_all(*commands)
    return desk


class UndoTest(DeskCase):
    def test_each_deed_taken_back_and_done_again(self):
        desk, seen = Desk(), []
        for line in DEEDS:
            seen.append(told(desk)[:4])
            desk.do(line)
            self.assertEqual(len(seen), len(desk))
            self.assertEqual(DEEDS[:len(seen)], desk.lines())
        end = told(desk)
        for at, line in reversed(list(enumerate(DEEDS))):
            self.answers(desk, ("undo", line))
            self.assertEqual(seen[at], told(desk)[:4])
            self.assertEqual(DEEDS[:at], desk.lines())
        self.fails(desk, NothingToUndo, {}, "undo")
        for line in DEEDS:
            self.answers(desk, ("redo", line))
        self.fails(desk, NothingToRedo, {}, "redo")
        self.assertEqual(end, told(desk))

    def test_a_new_deed_between(self):
        desk = full_desk()
        self.answers(desk, ("undo", MORE[2]), ("undo", MORE[1]), ("point n 1,2,3", "-"))
        self.fails(desk, NothingToRedo, {}, "redo")
        self.answers(desk, ("undo", "point n 1,2,3"), ("redo", "point n 1,2,3"), ("undo", "point n 1,2,3"),
                     ("undo", MORE[0]),
                     ("redo", MORE[0]), ("redo", "point n 1,2,3"))
        self.fails(desk, NothingToRedo, {}, "redo")

    def test_what_is_no_deed_between(self):
        desk = desk_with("claim c row m", "drop x", "undo")
        self.answers(desk, ("names", "a b m one p q r t x"))
        self.fails(desk, NameTaken, {"name": "a"}, "copy a b")
        self.fails(desk, InvalidCommand, {"value": "x"}, "x")
        self.fails(desk, InvalidRow, {"value": [ONE]}, "row n one")
        desk.attach("c", [UP, SIDE])
        self.answers(desk, ("redo", "drop x"))
        self.assertBool(True, desk.fits("c"))

    def test_states_behind(self):
        desk = desk_with("claim c row m", "claim d rests t p", "drop m")
        self.answers(desk, ("state c", "gone"), ("undo", "drop m"), ("state c", "true"), ("redo", "drop m"),
                     ("state c", "gone"),
                     ("undo", "drop m"), ("undo", "claim d rests t p"), ("states", "c true"),
                     ("redo", "claim d rests t p"),
                     ("states", "c true, d true"), ("forget c", "-"), ("states", "d true"), ("undo", "forget c"),
                     ("states", "c true, d true"))

    def test_three_hundred_deeds(self):
        desk = full_desk()
        lines = ["exchange r 0", "copy n r", "drop n"] * 97
        self.assertEqual(["-"] * 291, desk.do_all(*lines))
        self.assertEqual(300, len(desk))
        self.assertEqual(START + MORE + lines, desk.lines())
        self.fails(desk, TooMany, {"what": "deeds", "limit": 300}, "exchange r 0", "drop a", "claim c row m",
                   "point n 0,0,0")
        self.fails(desk, UnknownName, {"value": "n"}, "drop n")
        self.fails(desk, InvalidRow, {"value": [ONE]}, "row n one")
        self.answers(desk, ("names", "a b m one p q r t x"), ("undo", "drop n"))
        # With nine and one names there is room for no other one, and that is told first.
        self.fails(desk, TooMany, {"what": "names", "limit": 10}, "point k 0,0,0")
        self.answers(desk, ("redo", "drop n"), ("undo", "drop n"), ("drop a", "-"))
        self.fails(desk, TooMany, {"what": "deeds", "limit": 300}, "drop b")
        again = Desk.again(desk.lines())
        self.assertEqual((desk.names, 300), (again.names, len(again)))
        with self.assertRaises(CommandFailed) as caught:
            Desk.again(desk.lines() + ["drop b"])
        self.assertEqual(300, caught.exception.position)

    def test_limits_in_their_sequence(self):
        desk = full_desk()
        desk.do("point n 0,0,0")
        desk.do_all(*[f"claim c{at} row m" for at in range(12)])
        desk.do_all(*["exchange r 0"] * 278)
        self.assertEqual((10, 12, 300), (len(desk.names), len(desk.labels), len(desk)))
        self.fails(desk, TooMany, {"what": "names", "limit": 10}, "point k 0,0,0")
        self.fails(desk, TooMany, {"what": "labels", "limit": 12}, "claim d row m")
        self.fails(desk, TooMany, {"what": "deeds", "limit": 300}, "forget c0", "drop n", "lead p a")


class AllTest(DeskCase):
    def test_answers(self):
        desk = full_desk()
        self.assertEqual([], desk.do_all())
        self.assertEqual(["c true", "true", "-", "a b m one p q r t"],
                         desk.do_all("claim c row m", "state c", "drop x", "names"))
        self.assertEqual(["c gone"], desk.do_all("drop m"))
        self.assertEqual(START + MORE + ["claim c row m", "drop x", "drop m"], desk.lines())

    def test_undo_and_redo_among_them(self):
        desk = full_desk()
        self.assertEqual(["-", "drop x", "drop x", "drop x", "-"],
                         desk.do_all("drop x", "undo", "redo", "undo", "drop q"))
        self.assertEqual(START + MORE + ["drop q"], desk.lines())

    def assertAllFail(self, desk, position, error, named, *commands):
        for action in (desk.do_all, desk.attempt):
            before = told(desk)
            with self.assertRaises(CommandFailed) as caught:
                action(*commands)
            self.assertEqual({"position": position}, vars(caught.exception))
            cause = caught.exception.__cause__
            self.assertIs(error, cause.__class__)
            self.assertEqual(named, vars(cause))
            self.assertEqual(before, told(desk))

    def test_if_one_fails_none_has_an_effect(self):
        desk = desk_with("claim c row m", "drop x", "undo")
        self.assertAllFail(desk, 2, UnknownName, {"value": "z"}, "drop a", "drop m", "drop z", "drop b")
        self.assertAllFail(desk, 0, InvalidCommand, {"value": "x"}, "x", "drop a")
        self.assertAllFail(desk, 1, InvalidCommand, {"value": None}, "drop a", None)
        self.assertAllFail(desk, 3, NothingToRedo, {}, "redo", "undo", "redo", "redo")
        self.assertAllFail(desk, 10, NothingToUndo, {}, *["undo"] * 12)
        self.assertAllFail(desk, 1, TooMany, {"what": "names", "limit": 10}, "copy n a", "copy k a")
        self.assertAllFail(desk, 1, NameTaken, {"name": "n"}, "copy n a", "copy n a")
        self.assertAllFail(desk, 1, UnknownLabel, {"value": "c"}, "forget c", "state c")
        self.answers(desk, ("redo", "drop x"))

    def test_attempt(self):
        desk = desk_with("claim c row m", "drop x", "undo")
        before = told(desk)
        for commands, answers in (
            ((), []), (("drop m", "states"), ["c gone", "c gone"]),
            (("redo", "names"), ["drop x", "a b m one p q r t"]),
            (("undo", "undo", "point n 1,2,3", "shown n"), ["claim c row m", MORE[2], "-", "point 1,2,3"]),
        ):
            self.assertEqual(answers, desk.attempt(*commands))
            self.assertEqual(before, told(desk))
        self.answers(desk, ("redo", "drop x"))


class TrialTest(DeskCase):
    def test_all_is_as_before(self):
        desk = desk_with("claim c row m", "drop x", "undo")
        before = told(desk)
        with Trial(desk) as held:
            self.assertIs(desk, held)
            held.do_all("drop m", "undo", "undo", "point n 1,2,3")
            held.do("claim d closes r q")
            held.attach("d", 0)
            self.assertBool(True, desk.fits("d"))
            self.assertEqual(["d"], desk.labels)
        self.assertEqual(before, told(desk))
        self.answers(desk, ("claim d closes r q", "d false"))
        self.assertBool(False, desk.fits("d"))

    def test_papers_are_as_before(self):
        desk = desk_with("claim c row m")
        with Trial(desk):
            desk.attach("c", [UP, SIDE])
            self.assertBool(True, desk.fits("c"))
        self.assertBool(False, desk.fits("c"))
        desk.attach("c", [UP, SIDE])
        with Trial(desk):
            desk.do("exchange r 0")
            desk.attach("c", desk["r"])
            desk.do("forget c")
        self.assertBool(True, desk.fits("c"))

    def test_errors_that_leave_the_block(self):
        desk = full_desk()
        before = told(desk)
        for error in (UnknownName("z"), KeyError("k"), ZeroDivisionError(), KeyboardInterrupt(), StopIteration()):
            with self.assertRaises(error.__class__) as caught:
                with Trial(desk):
                    desk.do("drop a")
                    raise error
            self.assertIs(error, caught.exception)
            self.assertEqual(before, told(desk))
        with self.assertRaises(UnknownName):
            with Trial(desk=desk) as held:
                held.do("drop a")
                held.do("drop a")
        self.assertEqual(before, told(desk))

    def test_one_block_after_another(self):
        desk = full_desk()
        trial = Trial(desk)
        desk.do("drop a")
        with trial:
            desk.do("drop b")
        self.assertEqual(["b", "m", "one", "p", "q", "r", "t", "x"], desk.names)
        desk.do("drop m")
        with trial as held:
            held.do("drop p")
        self.assertEqual(["b", "one", "p", "q", "r", "t", "x"], desk.names)

    def test_blocks_within_blocks(self):
        desk = full_desk()
        with Trial(desk):
            desk.do("drop a")
            with Trial(desk):
                desk.do("drop b")
            self.assertEqual(["b", "m", "one", "p", "q", "r", "t", "x"], desk.names)
        self.assertEqual(9, len(desk.names))

    def test_tried(self):
        desk = desk_with("claim c row m")
        before = told(desk)
        self.assertEqual("c gone", tried(desk, lambda held: held.do("drop m")))
        self.assertEqual(before, told(desk))
        self.assertIs(desk, tried(desk=desk, action=lambda held: held))
        self.assertIsNone(tried(desk, lambda held: held.attach("c", [UP, SIDE])))
        self.assertBool(False, desk.fits("c"))
        with self.assertRaises(UnknownName):
            tried(desk, lambda held: held.do_all("drop a") and held.do("drop a"))
        self.assertEqual(before, told(desk))


class CopyTest(DeskCase):
    def test_a_desk_that_goes_on_by_itself(self):
        desk = desk_with("claim c row m", "drop x", "drop q", "undo", "undo")
        desk.attach("c", [UP, SIDE])
        other = desk.copy()
        self.assertIsInstance(other, Desk)
        self.assertEqual(told(desk), told(other))
        before = told(desk)
        self.answers(other, ("redo", "drop x"), ("drop m", "c gone"), ("undo", "drop m"))
        other.do_all("exchange r 0", "drop m", "make m r")
        other.attach("c", other["r"])
        self.assertEqual(before, told(desk))
        self.assertBool(True, desk.fits("c"))
        seen = told(other)
        desk.do_all("drop a", "drop b")
        self.assertEqual(seen, told(other))

    def test_deeds_done_again_by_another_desk(self):
        desk = Desk()
        desk.do_all(*DEEDS)
        again = Desk.again(desk.lines())
        self.assertIsInstance(again, Desk)
        self.assertEqual(told(desk), told(again))
        self.assertEqual(told(desk), told(Desk.again(lines=tuple(DEEDS))))
        self.assertEqual(told(Desk()), told(Desk.again([])))
        lines = desk.lines()
        other = Desk.again(lines)
        lines.clear()
        self.assertEqual(DEEDS, other.lines())

    def test_lines_that_are_no_deeds(self):
        for value in strangers() + [0, UP, desk_with(), "drop a"]:
            self.refuses(InvalidLines, {"position": None}, Desk.again, value)
        for wrong in strangers() + ["undo", "names", "states", "", "row r", 0, ["drop a"], "redo", "shown a"]:
            self.refuses(InvalidLines, {"position": 1}, Desk.again, [START[0], wrong, None])
            self.refuses(InvalidLines, {"position": 0}, Desk.again, (wrong, *START))
        # What is no deed comes ahead of what fails.
        self.refuses(InvalidLines, {"position": 2}, Desk.again, ["drop a", "drop b", "undo"])

    def test_lines_that_fail(self):
        with self.assertRaises(CommandFailed) as caught:
            Desk.again([*START, "drop z", "drop a"])
        self.assertEqual(len(START), caught.exception.position)
        self.assertEqual({"value": "z"}, vars(caught.exception.__cause__))
        self.assertIs(UnknownName, caught.exception.__cause__.__class__)


class PapersTest(DeskCase):
    def test_papers_of_each_claim_and_of_its_contrary(self):
        desk = desk_with("point o 1,0,0")
        for words in ("row m", "rowless m", "closes r r", "opens r r", "opens r q", "ends m t", "lacks m t",
                      "rests t p",
                      "moves t p", "rests t o", "alike m m", "unlike m m", "alike m t"):
            desk.do(f"claim c {words}")
            claim = desk.claim_of("c")
            other = desk.copy()
            self.assertBool(False, other.fits("c"))
            shown = paper_of(claim)
            if shown is None:
                pairs = {"row": "rowless", "closes": "opens", "ends": "lacks", "rests": "moves", "alike": "unlike"}
                pairs.update({two: one for one, two in pairs.items()})
                shown = paper_of((pairs[claim[0]], *claim[1:]))
            self.assertIsNone(other.attach("c", shown))
            self.assertBool(True, other.fits(label="c"))
            for wrong in (None, [], "paper", [SIDE], ((), ()), [0, 0, 0], {}):
                self.refuses(InvalidPaper, {"value": wrong}, other.attach, "c", wrong)
            self.assertBool(True, other.fits("c"))
            desk.do("forget c")

    def test_any_value_is_no_paper(self):
        desk = desk_with("claim c row m")
        for value in strangers() + [0, [], (), [UP], [SIDE, UP], BOTH, TURN, UP, [UP, None], [1, 0, 1], "row"]:
            self.refuses(InvalidPaper, {"value": value}, desk.attach, "c", value)
            self.refuses(InvalidPaper, {"value": value}, desk.attach, paper=value, label="c")
        self.assertBool(False, desk.fits("c"))

    def test_while_the_state_is_gone(self):
        desk = desk_with("claim c row m")
        desk.attach("c", [UP, SIDE])
        desk.do("drop m")
        self.assertBool(False, desk.fits("c"))
        self.refuses(InvalidPaper, {"value": [UP, SIDE]}, desk.attach, "c", [UP, SIDE])
        desk.do("make m r")
        self.assertBool(True, desk.fits("c"))
        desk.do("drop m")
        desk.do("make m q")
        self.assertBool(False, desk.fits("c"))
        for expected in (False, True, False, True):
            desk.do("undo")
            self.assertBool(expected, desk.fits("c"))

    def test_a_paper_is_copied(self):
        desk = desk_with("claim c row m", "claim d lacks m t")
        paper = [UP, SIDE]
        desk.attach("c", paper)
        paper.clear()
        self.assertBool(True, desk.fits("c"))
        parts = paper_of(desk.claim_of("d"))
        desk.attach("d", parts)
        parts[1].clear()
        self.assertBool(True, desk.fits("d"))

    def test_the_last_one_is_kept(self):
        desk = desk_with("claim c closes r q", "copy k r")
        desk.attach("c", 0)
        self.assertBool(True, desk.fits("c"))
        # Now the rows close, so that no number opens them.
        desk.do("drop q")
        desk.do("copy q r")
        self.assertBool(False, desk.fits("c"))
        desk.attach("c", BOTH)
        self.assertBool(True, desk.fits("c"))
        desk.do_all("undo", "undo")
        self.assertBool(False, desk.fits("c"))
        desk.do_all("redo", "redo")
        self.assertBool(True, desk.fits("c"))

    def test_what_it_was_kept_for(self):
        # A Motion may be a paper of `closes` alone; kept for one side, it does not fit the other one.
        desk = desk_with("claim c moves t p")
        desk.attach("c", [0, 1, 2])
        self.assertBool(True, desk.fits("c"))
        self.answers(desk, ("state c", "false"), ("lead p b", "c true"))
        self.assertBool(False, desk.fits("c"))
        desk.attach("c", (Ratio(0), 1))
        self.assertBool(True, desk.fits("c"))
        self.answers(desk, ("undo", "lead p b"))
        self.assertBool(False, desk.fits("c"))

    def test_forgotten_and_noted_again(self):
        desk = desk_with("claim c row m")
        desk.attach("c", [UP, SIDE])
        desk.do("forget c")
        self.refuses(UnknownLabel, {"value": "c"}, desk.fits, "c")
        self.answers(desk, ("claim c row t", "c true"))
        self.assertBool(False, desk.fits("c"))
        self.answers(desk, ("forget c", "-"), ("claim c rowless m", "c false"))
        self.assertBool(False, desk.fits("c"))
        self.answers(desk, ("forget c", "-"), ("claim c row m", "c true"))
        self.assertBool(True, desk.fits("c"))
        desk.do_all("undo", "undo", "undo", "undo")
        self.assertBool(False, desk.fits("c"))
        self.answers(desk, ("claimed c", "row t"))
        desk.attach("c", [UP])
        self.answers(desk, ("undo", "claim c row t"), ("undo", "forget c"), ("claimed c", "row m"))
        self.assertBool(False, desk.fits("c"))

    def test_it_is_no_deed(self):
        desk = desk_with("claim c row m", "drop x", "undo")
        before = (desk.lines(), len(desk))
        desk.attach("c", exchanged([UP, SIDE], 0))
        self.assertEqual(before, (desk.lines(), len(desk)))
        self.answers(desk, ("redo", "drop x"), ("undo", "drop x"), ("undo", "claim c row m"), ("redo", "claim c row m"))
        self.assertBool(True, desk.fits("c"))
        self.assertBool(False, Desk.again(desk.lines()).fits("c"))

    def test_a_pose_that_fits_later(self):
        desk = desk_with("copy n m", "lead n b", "claim c alike m n")
        desk.attach("c", SIDE)
        self.assertEqual(led_motion(BOTH, SIDE), desk["n"])
        desk.do("lead n a")
        self.assertBool(False, desk.fits("c"))
        self.answers(desk, ("state c", "true"), ("lead n a", "-"))
        self.assertBool(True, desk.fits("c"))
        self.assertEqual(as_ratios((0, 0, 3)), desk["p"])
        self.assertEqual(Motion(BOTH.eights()), desk["m"])
        self.assertEqual(Eight((1, 2, 0, 0), (0, 0, 0, 1)), desk["x"])
