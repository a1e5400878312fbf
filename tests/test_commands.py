"""Names and commands by their words (points 95, 97, 98)."""

from hingerows.commands import is_command, is_deed, is_name
from tests.helpers import BOTH, UP, Case, strangers

LETTERS = "abcdefghijklmnopqrstuvwxyz"
DEEDS = [
    "eight", "point", "hinge", "row", "motion", "make", "solve", "part", "copy", "times", "undone", "mirror",
    "exchange", "lead", "change", "more", "less", "drop", "claim", "forget",
]
# A command of each word, and what stands behind it.
COMMANDS = {
    "eight": "eight a 0,1,0,0;0,0,1/2,0", "point": "point p 1,-2/3,0", "hinge": "hinge h 0,0,0 0,0,1 -1/2 3",
    "row": "row r a,b,a", "motion": "motion m a,b", "make": "make m r", "solve": "solve r m 0",
    "part": "part n m 1,0,1",
    "copy": "copy b a", "times": "times c a b", "undone": "undone b a", "mirror": "mirror b a",
    "exchange": "exchange r 0", "lead": "lead r a", "change": "change m 1,0;0,1", "more": "more r a",
    "less": "less r 1",
    "drop": "drop a", "forget": "forget c", "undo": "undo", "redo": "redo", "state": "state c", "states": "states",
    "claimed": "claimed c", "names": "names", "shown": "shown a", "norm": "norm a", "line": "line a", "far": "far a b",
    "sine": "sine a b", "kind": "kind a b", "same": "same a b", "between": "between a b", "degree": "degree m",
    "plain": "plain m", "rows": "rows m", "frames": "frames m", "within": "within m n", "spot": "spot m p 1/2",
    "fallen": "fallen m p", "bennett": "bennett r",
}
CLAIMS = {
    "row": 1, "rowless": 1, "closes": 2, "opens": 2, "ends": 2, "lacks": 2, "rests": 2, "moves": 2, "alike": 2,
    "unlike": 2, "four": 1, "broken": 1,
}


def claim_lines():
    return [f"claim c {word} " + " ".join(["m", "p"][:many]) for word, many in CLAIMS.items()]


def all_lines():
    return list(COMMANDS.values()) + claim_lines()


class IsNameTest(Case):
    def test_names(self):
        for value in [*LETTERS, "a1", "z9999999", "abcdefgh", "row", "undo", "x0y1z2", "eight", "a0000000"]:
            self.assertBool(True, is_name(value))
            self.assertBool(True, is_name(value=value))

    def test_any_value(self):
        for value in strangers() + [
            "", "1", "1a", "A", "aB", "a_b", "a-b", "a b", " a", "a ", "a\n", "abcdefghi", "a12345678", "a,b", "-",
            "a.b",
            0, ["a"], ("a",), UP, BOTH, b"a",
        ]:
            self.assertBool(False, is_name(value))


class IsCommandTest(Case):
    def test_a_command_of_each_word(self):
        self.assertEqual(41, len(COMMANDS))
        for word, line in COMMANDS.items():
            self.assertEqual(word, line.split(" ")[0])
            self.assertBool(True, is_command(line))
            self.assertBool(True, is_command(value=line))
        for line in claim_lines():
            self.assertBool(True, is_command(line))

    def test_deeds(self):
        for word, line in COMMANDS.items():
            self.assertBool(word in DEEDS, is_deed(line))
        for line in claim_lines():
            self.assertBool(True, is_deed(value=line))
        for value in strangers() + ["", "row", "row r", "row r a b", "claim c", "eight a 1,2,3;0,0,0,0", 0, UP,
                                    ["drop a"]]:
            self.assertBool(False, is_deed(value))

    def test_wrong_blanks(self):
        for line in all_lines():
            for wrong in (" " + line, line + " ", line.replace(" ", "  ", 1), line + "\n", "\n" + line, line.upper(),
                          line.replace(" ", "\t", 1), line + " a", line + " 0", line + "  ", line + ","):
                if wrong != line:
                    self.assertBool(False, is_command(wrong))
                    self.assertBool(False, is_deed(wrong))

    def test_too_few_words(self):
        for line in all_lines():
            if " " in line:
                self.assertBool(False, is_command(line.rpartition(" ")[0]))
                self.assertBool(False, is_command(line.rpartition(" ")[0] + " "))

    def test_any_value(self):
        for value in strangers() + [0, 1, UP, BOTH, ["names"], ("undo",), b"names", "", " ", "nam", "namess", "do",
                                    "claims",
                                    "Names", "names;", "quit", "undo undo", "claim", "claim c", "claim c row"]:
            self.assertBool(False, is_command(value))

    def test_names_in_commands(self):
        for wrong in ("", "A", "1a", "abcdefghi", "a_", "a;b", "-"):
            for line in (f"eight {wrong} 0,1,0,0;0,0,0,0", f"copy {wrong} a", f"copy a {wrong}", f"drop {wrong}",
                         f"times a b {wrong}", f"claim {wrong} row m", f"claim c row {wrong}",
                         f"claim c ends m {wrong}",
                         f"state {wrong}", f"forget {wrong}", f"row r a,{wrong}", f"row r {wrong},a"):
                self.assertBool(False, is_command(line))
        for line in ("copy a a", "drop undo", "claim row row row", "times abcdefgh z9 a1234567"):
            self.assertBool(True, is_command(line))

    def test_lists_of_names(self):
        for many in range(1, 8):
            names = ",".join(["a"] * many)
            self.assertBool(True, is_command(f"row r {names}"))
            self.assertBool(True, is_command(f"motion m {names}"))
        for wrong in (",".join(["a"] * 8), "a,", ",a", "a,,b", "a, b", "a;b", ""):
            self.assertBool(False, is_command(f"row r {wrong}"))
            self.assertBool(False, is_command(f"motion m {wrong}"))

    def test_counts(self):
        for good in ("0", "1", "7", "10", "9" * 30, "1" + "0" * 29):
            for line in (f"solve r m {good}", f"exchange r {good}", f"less r {good}"):
                self.assertBool(True, is_command(line))
        for wrong in ("", "-", "-0", "-1", "+1", "00", "01", "1.0", "1/2", "2/1", "1" + "0" * 30, "9" * 31, "a", "1,2",
                      "1 2"):
            for line in (f"solve r m {wrong}", f"exchange r {wrong}", f"less r {wrong}"):
                self.assertBool(False, is_command(line))

    def test_numbers(self):
        for good in ("0", "1", "-1", "999999", "-999999", "1/2", "-3/2", "999999/999998", "-1/999999", "100000"):
            for line in (f"spot m p {good}", f"point p 0,{good},0", f"hinge h 0,0,0 0,0,1 {good} 1",
                         f"hinge h {good},0,0 0,0,1 1 {good}", f"change m 1,{good};0,1", f"part n m {good}",
                         f"eight a 0,0,0,{good};{good},0,0,0"):
                self.assertBool(True, is_command(line))
        for wrong in ("", "-", "-0", "00", "01", "+1", "2/4", "1/1", "0/1", "1/0", "1/-2", "1/", "/2", "1.5", "1e3",
                      "1000000",
                      "-1000000", "1/1000000", "1234567/2", "0000001", "a", "1_0", "--1", "1//2"):
            for line in (f"spot m p {wrong}", f"point p 0,{wrong},0", f"hinge h 0,0,0 0,0,1 {wrong} 1",
                         f"hinge h 0,0,0 0,0,1 1 {wrong}", f"hinge h 0,0,0 {wrong},0,1 1 1", f"change m 1,{wrong};0,1",
                         f"change m 1,1;0,{wrong}", f"part n m 1,{wrong}", f"eight a 0,0,0,{wrong};0,0,0,0",
                         f"eight a 0,0,0,0;{wrong},0,0,0"):
                self.assertBool(False, is_command(line))

    def test_how_many_numbers(self):
        for many in range(1, 28):
            numbers = ",".join(["1"] * many)
            self.assertBool(many <= 25, is_command(f"part n m {numbers}"))
            self.assertBool(many == 3, is_command(f"point p {numbers}"))
            self.assertBool(many == 4, is_command(f"eight a {numbers};0,0,0,0"))
            self.assertBool(many == 4, is_command(f"eight a 0,0,0,0;{numbers}"))
            self.assertBool(many == 2, is_command(f"change m {numbers};0,0"))
            self.assertBool(many == 2, is_command(f"change m 0,0;{numbers}"))
            self.assertBool(many == 3, is_command(f"hinge h {numbers} 0,0,0 0 0"))
            self.assertBool(many == 1, is_command(f"spot m p {numbers}"))
        for wrong in ("part n m -", "eight a 0,0,0,0", "eight a 0,0,0,0;0,0,0,0;0,0,0,0", "eight a 0,0,0,0,0,0,0,0",
                      "change m 1,0,0,1", "change m 1,0;0,1;", "point p 0,0;0", "eight a ;", "change m ;"):
            self.assertBool(False, is_command(wrong))

    def test_claims(self):
        for word, many in CLAIMS.items():
            for count in range(4):
                line = " ".join(["claim", "c", word] + ["m"] * count)
                self.assertBool(count == many, is_command(line))
        for word in ("", "rows", "Row", "close", "true", "hinge", "claim", "gone", "-"):
            self.assertBool(False, is_command(f"claim c {word} m"))
            self.assertBool(False, is_command(f"claim c {word} m p"))
        self.assertBool(False, is_command("claim c closes r,s"))

    def test_whatever_is_kept_and_whatever_they_make(self):
        for line in ("hinge h 0,0,0 0,0,0 1 0", "change m 0,0;0,0", "eight a 0,0,0,0;0,0,0,0", "part n m 0,0,0",
                     "row r r", "copy undo redo", "claim c rests c c", "more m m"):
            self.assertBool(True, is_command(line))
