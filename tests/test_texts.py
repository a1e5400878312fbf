"""Written forms (point 91)."""

from hingerows.eights import Eight
from hingerows.errors import InvalidSort, InvalidThing
from hingerows.lines import line_through, told_line
from hingerows.motions import Motion, hinge_motion, row_motion
from hingerows.polys import told
from hingerows.ratios import Ratio
from hingerows.readers import read
from hingerows.texts import is_of, sorts, written
from tests.helpers import (
    BOTH, FAST, ONE, SIDE, SQUARE, TURN, UP, Case, as_ratios, as_tuples, motions_not_plain, number_samples,
    plain_motions, plain_rows, some_eights, some_hinges, some_numbers, some_points, strangers, wrong_eights,
    wrong_lines, wrong_motions, wrong_numbers, wrong_points, wrong_polys, wrong_rows,
)

SORTS = ["number", "poly", "point", "line", "eight", "row", "motion"]
HALF = Ratio(1, 2)


def samples():
    """Values of each sort."""
    points = some_points(5)
    lines = [line_through(one, other) for one, other in zip(points, points[1:])]
    return {
        "number": number_samples() + some_numbers(9),
        "poly": [[], [0], [0, 0], (5,), [1, 0, HALF, 0], [0] * 25, [0] * 24 + [1], [-1] * 25, some_numbers(7)],
        "point": [(0, 0, 0), [1, HALF, -3], *points],
        "line": [*lines, ((0, -2, 4), [3, 0, 0]), ((HALF, 0, 0), (0, 0, 0)), ([3, 1, 0], [-1, 3, 5])],
        "eight": [ONE, ONE.times(0), UP, SIDE, *some_eights(4)],
        "row": [*plain_rows(), (UP,), (UP, SIDE), [UP] * 6, some_hinges(5)[:4], [UP, UP.mirror()]],
        "motion": [*plain_motions(), *motions_not_plain()],
    }


def worth_of(sort, value):
    """The value as it is told when it is read."""
    if sort in ("number", "eight", "motion"):
        return as_ratios(value)
    if sort == "poly":
        return told(value)
    if sort == "line":
        return told_line(value)
    return as_ratios(as_tuples(value)) if sort == "point" else list(value)


class SortsTest(Case):
    def test_in_their_sequence(self):
        self.assertEqual(SORTS, sorts())
        sorts().clear()
        self.assertEqual(SORTS, sorts())


class IsOfTest(Case):
    def test_values_of_each_sort(self):
        for sort, values in samples().items():
            for value in values:
                self.assertBool(True, is_of(sort, value))
                self.assertBool(True, is_of(value=value, sort=sort))

    def test_any_value(self):
        wrongs = {
            "number": wrong_numbers(), "poly": wrong_polys(), "point": wrong_points(), "line": wrong_lines(),
            "eight": wrong_eights(), "row": wrong_rows(), "motion": wrong_motions(),
        }
        self.assertEqual(sorted(SORTS), sorted(wrongs))
        for sort, values in wrongs.items():
            for value in values:
                self.assertBool(False, is_of(sort, value))
                self.refuses(InvalidThing, {"value": value}, written, sort, value)
        self.assertBool(False, is_of("row", [UP] * 7))
        self.assertBool(False, is_of("line", [(1, 0, 0), (0, 0, 0)]))
        self.assertBool(True, is_of("line", ([1, 0, 0], (0, 2, 0))))

    def test_wrong_sorts(self):
        wrongs = strangers() + [0, UP, ["row"], ("row",), "Row", "row ", "rows", "line\n", "hinge", "part", "claim"]
        for action in (is_of, written):
            self.refuses_each(InvalidSort, wrongs, lambda value, act=action: act(value, 1))
            self.refuses(InvalidSort, {"value": "x"}, action, sort="x", value=None)


class WrittenTest(Case):
    def test_single_lines(self):
        for sort, value, expected in (
            ("number", 0, "number 0\n"), ("number", Ratio(-6, 4), "number -3/2\n"),
            ("number", Ratio(8, 2), "number 4\n"),
            ("number", -10 ** 30, "number -1000000000000000000000000000000\n"), ("poly", [], "poly -\n"),
            ("poly", [0, Ratio(0)], "poly -\n"), ("poly", (1, 0, HALF, 0), "poly 1,0,1/2\n"), ("poly", [7], "poly 7\n"),
            ("poly", [0] * 24 + [-1], "poly " + "0," * 24 + "-1\n"),
            ("point", [1, Ratio(2, 3), -4], "point 1,2/3,-4\n"),
            ("line", ((0, 2, 0), (0, 0, 4)), "line 0,1,0;0,0,2\n"),
            ("line", ((-2, 0, 1), (0, 3, 0)), "line 1,0,-1/2;0,-3/2,0\n"),
            ("eight", SIDE, "eight 0,2,0,0;0,0,0,-2\n"),
            ("eight", Eight((Ratio(-1, 3), 0, 5, 0)), "eight -1/3,0,5,0;0,0,0,0\n"),
        ):
            self.assertEqual(expected, written(sort, value))

    def test_rows_and_motions(self):
        self.assertEqual("row\nhinge 0,0,0,1;0,0,0,0\nhinge 0,2,0,0;0,0,0,-2\n", written("row", (UP, SIDE)))
        self.assertEqual("row\n" + "hinge 0,0,0,1;0,0,0,0\n" * 6, written("row", [UP] * 6))
        self.assertEqual(
            "motion\npart 0,0,2,0;2,0,0,0\npart 0,-2,0,-1;0,0,0,2\npart 1,0,0,0;0,0,0,0\n", written("motion", BOTH))
        self.assertEqual("motion\npart 0,0,0,-1;0,0,0,0\npart 1,0,0,0;0,0,0,0\n", written("motion", hinge_motion(UP)))

    def test_what_is_written_is_read_again_and_written_alike(self):
        for sort, values in samples().items():
            for value in values:
                text = written(sort, value)
                self.assertEqual((sort, worth_of(sort, value)), read(text))
                self.assertEqual(text, written(sort, read(text)[1]))
                self.assertEqual(text, written(value=value, sort=sort))
                if isinstance(value, (list, tuple)) and sort != "line":
                    self.assertEqual(text, written(sort, as_tuples(value)))
                    self.assertEqual(text, written(sort, list(value)))
                self.assertEqual(text, written(sort, as_ratios(value)))

    def test_values_of_the_same_worth_have_one_form(self):
        line = ((2, 0, -1), (0, 3, 0))
        for scale in (-1, 3, Ratio(-7, 5)):
            scaled = tuple([tuple([scale * number for number in point]) for point in line])
            self.assertEqual(written("line", line), written("line", scaled))
        self.assertEqual(written("motion", row_motion([UP, SIDE])), written("motion", Motion(BOTH.eights())))
        self.assertNotEqual(written("motion", BOTH), written("motion", SQUARE))
        self.assertNotEqual(written("eight", UP), written("row", [UP]))

    def test_values_of_other_sorts(self):
        self.refuses(InvalidThing, {"value": [UP]}, written, "eight", [UP])
        self.refuses(InvalidThing, {"value": UP}, written, "row", UP)
        self.refuses(InvalidThing, {"value": TURN}, written, "eight", TURN)
        self.refuses(InvalidThing, {"value": ((0, 0, 0), (0, 0, 0))}, written, "line", ((0, 0, 0), (0, 0, 0)))
        self.refuses(InvalidThing, {"value": [FAST, ONE]}, written, "row", [FAST, ONE])
