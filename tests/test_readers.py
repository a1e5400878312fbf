"""Texts read, and their wrong lines (points 91, 92)."""

from hingerows.errors import InvalidText
from hingerows.motions import Motion
from hingerows.ratios import Ratio
from hingerows.readers import read
from hingerows.texts import written
from tests.helpers import BOTH, FAST, ONE, SIDE, UP, Case, plain_motions, plain_rows, strangers
from tests.test_texts import samples

HINGE = "hinge 0,0,0,1;0,0,0,0\n"
PART = "part 0,0,0,-1;0,0,0,0\n"
END = "part 1,0,0,0;0,0,0,0\n"

WRONG_NUMBERS = [
    "", "-", "-0", "00", "01", "-01", "+1", "1.0", "1e3", "0x1", "1_0", " 1", "1 ", "--1", "1-", "a", "1/1", "2/4",
    "0/2", "1/0", "1/-2", "-1/-2", "1/", "/2", "1/02", "1//2", "1/2/3", "1/+2", "3/1", "-0/5", "1 /2", "1,", ",1",
    "1;", "1\t", "True", "None", "1/2 ", "10/5",
]


class ReadTest(Case):
    def test_kinds_of_what_is_told(self):
        for text, expected in (
            ("number 5\n", ("number", Ratio(5))), ("poly 0,1\n", ("poly", [Ratio(0), Ratio(1)])),
            ("poly -\n", ("poly", [])), ("point 1,0,-1/2\n", ("point", (Ratio(1), Ratio(0), Ratio(-1, 2)))),
            ("line 0,1,2;0,0,0\n", ("line", ((Ratio(0), Ratio(1), Ratio(2)), (Ratio(0),) * 3))),
            ("eight 0,2,0,0;0,0,0,-2\n", ("eight", SIDE)), ("row\n" + HINGE, ("row", [UP])),
            ("motion\n" + PART + END, ("motion", Motion([-UP, ONE]))),
        ):
            found = read(text)
            self.assertEqual(expected, found)
            self.assertEqual((tuple, expected[1].__class__), (found.__class__, found[1].__class__))
            self.assertEqual(found, read(text=text))

    def test_great_numbers(self):
        digits = "123456789" * 200
        self.assertEqual(Ratio(-int(digits)), read(f"number -{digits}\n")[1])
        self.assertEqual(Ratio(1, int(digits)), read(f"number 1/{digits}\n")[1])

    def assertWrong(self, line, text):
        with self.subTest(text=text):
            self.refuses(InvalidText, {"line": line}, read, text)

    def test_values_that_are_no_strings(self):
        for value in strangers() + [0, 1, UP, BOTH, ["number 1\n"], ("number 1\n",), b"number 1\n"]:
            if not isinstance(value, str):
                self.refuses(InvalidText, {"line": 0}, read, value)

    def test_numbers_that_are_not_written(self):
        for wrong in WRONG_NUMBERS:
            self.assertWrong(1, f"number {wrong}\n")
            if wrong != "-":
                self.assertWrong(1, f"poly {wrong}\n")
            self.assertWrong(1, f"poly 1,{wrong},2\n")
            self.assertWrong(1, f"point 1,2,{wrong}\n")
            self.assertWrong(1, f"line 1,0,0;0,0,{wrong}\n")
            self.assertWrong(1, f"eight {wrong},0,0,0;0,0,0,0\n")
            self.assertWrong(3, "row\n" + HINGE + f"hinge 0,0,0,1;0,0,0,{wrong}\n" + HINGE)
            self.assertWrong(2, f"motion\npart 0,{wrong},0,1;0,0,0,0\n" + END)

    def test_not_as_many_as_told(self):
        for wrong in ("1,2", "1,2,3,4", "1,2,3;0,0,0", "1 2 3", "1,2,,3"):
            self.assertWrong(1, f"point {wrong}\n")
        for wrong in ("1,0,0", "1,0,0;0,0", "1,0;0,0,0", "1,0,0;0,0,0;0,0,0", "1,0,0,0;0,0,0,0", "1,0,0,0,0,0", ";",
                      ""):
            self.assertWrong(1, f"line {wrong}\n")
        for wrong in ("1,0,0,0", "1,0,0,0;0,0,0", "1,0,0;0,0,0,0", "1,0,0,0;0,0,0,0;0,0,0,0", "1,0,0,0 0,0,0,0"):
            self.assertWrong(1, f"eight {wrong}\n")
            self.assertWrong(2, f"row\nhinge {wrong}\n")
            self.assertWrong(3, f"motion\n{PART}part {wrong}\n")

    def test_polynomials(self):
        for wrong in ("0", "1,0", "0,0", "-,1", "1,-", "- -", "--", "1,2,0"):
            self.assertWrong(1, f"poly {wrong}\n")
        self.assertEqual(25, len(read("poly " + "0," * 24 + "1\n")[1]))
        self.assertWrong(1, "poly " + "0," * 25 + "1\n")

    def test_lines_that_are_not_told(self):
        for wrong in ("2,0,0;0,0,0", "-1,0,0;0,0,0", "0,2,0;1,0,0", "0,0,0;1,0,0", "0,0,0;0,0,0", "1,0,0;1,0,0",
                      "1,1,0;1,0,0", "1/2,0,0;0,0,0", "0,0,-1;0,0,0"):
            self.assertWrong(1, f"line {wrong}\n")
        self.assertEqual("line", read("line 0,0,1;5,-3,0\n")[0])

    def test_words_that_are_not_there(self):
        for wrong in ("", " ", "number", "number ", "Number 1", "number  1", " number 1", "number 1 ", "number 1 2",
                      "numbers 1", "hinge 0,0,0,1;0,0,0,0", "part 1,0,0,0;0,0,0,0", "row ", "row 1", "motion ",
                      "Row", "rows", "poly", "poly ", "eight", "line", "point", "none", "-", "number\t1", "1"):
            self.assertWrong(1, wrong + "\n")
            self.assertWrong(1, wrong + "\n" + HINGE)
            self.assertWrong(1, wrong)

    def test_a_line_behind_a_value_that_has_only_one(self):
        for first in ("number 1\n", "poly -\n", "poly 1\n", "point 1,2,3\n", "line 1,0,0;0,0,0\n",
                      written("eight", UP)):
            for behind in ("\n", first, "number 2\n", "x", " ", HINGE, "\n\n\n", "x\ny\n"):
                self.assertWrong(2, first + behind)

    def test_rows(self):
        self.assertWrong(2, "row\n")
        self.assertWrong(2, "row\n\n")
        self.assertWrong(2, "row\nrow\n")
        self.assertWrong(3, "row\n" + HINGE + "\n")
        self.assertWrong(3, "row\n" + HINGE + "part 0,0,0,1;0,0,0,0\n")
        self.assertWrong(3, "row\n" + HINGE + "number 1\n" + HINGE)
        self.assertWrong(4, "row\n" + HINGE * 2 + "hinge  0,0,0,1;0,0,0,0\n")
        self.assertEqual([UP] * 6, read("row\n" + HINGE * 6)[1])
        for behind in (HINGE, HINGE * 3, "x\n", "\n", HINGE[:-1], HINGE + "x\n"):
            self.assertWrong(8, "row\n" + HINGE * 6 + behind)

    def test_eights_that_are_no_hinges(self):
        for wrong in ("0,0,0,0;0,0,0,0", "1,0,0,0;0,0,0,0", "0,1,0,0;1,0,0,0", "0,1,0,0;0,1,0,0", "1,0,0,0;0,1,0,0"):
            self.assertWrong(2, f"row\nhinge {wrong}\n")
            self.assertWrong(4, "row\n" + HINGE * 2 + f"hinge {wrong}\n" + HINGE)
            self.assertWrong(2, f"row\nhinge {wrong}\nx\n")

    def test_motions(self):
        self.assertWrong(2, "motion\n")
        self.assertWrong(3, "motion\n" + END)
        self.assertWrong(3, "motion\n" + PART)
        self.assertWrong(2, "motion\nmotion\n")
        self.assertWrong(3, "motion\n" + PART + HINGE)
        # No single line is wrong here, but the head is not 1, or the norm has a second part.
        self.assertWrong(4, "motion\n" + PART + PART)
        self.assertWrong(4, "motion\n" + END + PART)
        self.assertWrong(4, "motion\npart 1,0,0,0;1,0,0,0\n" + END)
        self.assertWrong(4, "motion\npart 0,1,0,0;0,1,0,0\n" + END)
        self.assertWrong(9, "motion\n" + PART * 7)
        self.assertEqual(6, read("motion\n" + PART + "part 0,0,0,0;0,0,0,0\n" * 5 + END)[1].degree)
        self.assertWrong(9, "motion\n" + PART + "part 0,0,0,0;0,0,0,0\n" * 5 + END + END)
        self.assertWrong(9, "motion\n" + PART * 8 + "x\n")
        self.assertWrong(4, "motion\n" + PART * 2 + "x\n" + END)

    def test_a_last_line_without_a_line_feed(self):
        for sort, values in samples().items():
            for value in values[:5]:
                text = written(sort, value)
                self.assertWrong(text.count("\n"), text[:-1])
        self.assertWrong(1, "row")
        self.assertWrong(1, "motion")
        self.assertWrong(2, "row\nhinge")
        self.assertWrong(3, "row\n" + HINGE + "x")
        self.assertWrong(2, "row\nx\n" + HINGE[:-1])
        self.assertWrong(4, "motion\n" + PART + PART + "x")

    def test_empty(self):
        self.assertWrong(1, "")
        self.assertWrong(1, "\n")
        self.assertWrong(1, "\n\n\n")
        self.assertWrong(1, " ")


def changed_texts(text):
    """The text with a line left out, told twice, or with one sign left out, changed or put in."""
    lines = text.splitlines(keepends=True)
    for at in range(len(lines)):
        yield "".join(lines[:at] + lines[at + 1:])
        yield "".join(lines[:at + 1] + lines[at:])
    for at in range(len(text)):
        yield text[:at] + text[at + 1:]
        for sign in "0 ,;-/\n9x":
            yield text[:at] + sign + text[at + 1:]
            yield text[:at] + sign + text[at:]


class ChangedTextsTest(Case):
    def test_read_and_written_alike_or_refused(self):
        texts = [written(sort, value) for sort, values in samples().items() for value in values[3:5]]
        texts = [text for text in texts if len(text) < 150] + [written("motion", BOTH), written("row", [UP, FAST])]
        counts = {True: 0, False: 0}
        for text in texts:
            for other in changed_texts(text):
                try:
                    sort, value = read(other)
                except InvalidText as error:
                    lines = other.count("\n") + 1
                    self.assertTrue(1 <= error.line <= lines, (other, error.line))
                    counts[False] += 1
                else:
                    self.assertEqual(other, written(sort, value))
                    counts[True] += 1
        self.assertTrue(all(count > 100 for count in counts.values()), counts)

    def test_two_joined(self):
        row, motion = written("row", [UP, SIDE]), written("motion", BOTH)
        self.refuses(InvalidText, {"line": 4}, read, row + row)
        self.refuses(InvalidText, {"line": 4}, read, row + motion)
        self.refuses(InvalidText, {"line": 5}, read, motion + row)
        self.refuses(InvalidText, {"line": 5}, read, motion + motion)

    def test_a_line_left_out_or_put_in(self):
        for row in plain_rows():
            lines = written("row", row).splitlines(keepends=True)
            for at in range(1, len(lines)):
                left = "".join(lines[:at] + lines[at + 1:])
                if len(row) > 1:
                    self.assertEqual(("row", row[:at - 1] + row[at:]), read(left))
                else:
                    self.refuses(InvalidText, {"line": 2}, read, left)
                more = "".join(lines[:at + 1] + lines[at:])
                if len(row) < 6:
                    self.assertEqual(("row", row[:at] + row[at - 1:]), read(more))
                else:
                    self.refuses(InvalidText, {"line": 8}, read, more)
        for motion in plain_motions():
            lines = written("motion", motion).splitlines(keepends=True)
            self.refuses(InvalidText, {"line": len(lines)}, read, "".join(lines[:-1]))
            self.refuses(InvalidText, {"line": 1}, read, "".join(lines[1:]))
