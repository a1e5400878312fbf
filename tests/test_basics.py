"""INTEGERS, COUNTS and lists (point 2)."""

from hingerows.basics import is_count, is_integer, is_list
from hingerows.ratios import Ratio
from tests.helpers import Case, strangers


class BasicsTest(Case):
    def test_integers(self):
        for value in (0, 1, -1, 10 ** 50, -10 ** 50):
            self.assertBool(True, is_integer(value))
        self.assertBool(True, is_integer(value=3))

    def test_no_integers(self):
        for value in strangers() + [Ratio(1), Ratio(0), [1], (1,), []]:
            self.assertBool(False, is_integer(value))
            self.assertBool(False, is_count(value))

    def test_counts(self):
        for value in (0, 1, 10 ** 50):
            self.assertBool(True, is_count(value))
        for value in (-1, -10 ** 50):
            self.assertBool(False, is_count(value))
        self.assertBool(False, is_count(value=-3))

    def test_lists_and_tuples(self):
        for value in ([], (), [1], (None, "a"), [[]]):
            self.assertBool(True, is_list(value))
        for value in strangers() + [0, 1, Ratio(1)]:
            self.assertBool(False, is_list(value))
        self.assertBool(True, is_list(value=[]))
