"""The errors: their bases, their attributes, that they can be made with any values."""

import unittest

from hingerows import errors
from tests.helpers import number_samples, strangers

VALUE = {
    "HingeError": [
        "InvalidEight", "InvalidFour", "InvalidHinge", "InvalidLine", "InvalidMotion", "InvalidNumber",
        "InvalidPlace", "InvalidPoint", "InvalidPoly", "InvalidPose", "InvalidRow", "InvalidClaim",
        "InvalidCommand", "InvalidDivisor", "InvalidPaper", "InvalidPosition", "InvalidScale", "InvalidSequence",
        "InvalidSort", "InvalidTable", "InvalidThing",
    ],
    "MissingError": ["UnknownLabel", "UnknownName"],
}
POSITION = {
    "HingeError": ["InvalidEights", "InvalidHinges", "InvalidLines", "InvalidPoses"],
    "StateError": ["CommandFailed"],
}
OTHER = {
    "InvalidText": ("HingeError", ["line"]),
    "LabelTaken": ("StateError", ["label"]),
    "NameTaken": ("StateError", ["name"]),
    "WrongThing": ("StateError", ["name"]),
    "TooMany": ("LimitError", ["what", "limit"]),
}
BARE = [
    "DividedByZero", "NoughtPoly", "NotUndone", "HeadNotOne", "NotPlain", "AlikeNorms", "NoPose", "NotApart",
    "NotClosed", "NotMotion", "NotPart", "NothingToRedo", "NothingToUndo", "SamePoint", "SharedEnd",
]
BASES = {
    "HingeError": ValueError, "MissingError": LookupError, "StateError": RuntimeError, "LimitError": ArithmeticError,
}


def table():
    """Each class's name with its base's name and its attributes."""
    rows = {name: ("StateError", []) for name in BARE}
    rows.update(OTHER)
    for base, names in VALUE.items():
        rows.update({name: (base, ["value"]) for name in names})
    for base, names in POSITION.items():
        rows.update({name: (base, ["position"]) for name in names})
    return rows


class ErrorsTest(unittest.TestCase):
    def test_bases_of_all(self):
        for name, base in BASES.items():
            self.assertEqual((base,), getattr(errors, name).__bases__)
            self.assertIsInstance(getattr(errors, name)(), base)

    def test_each_class_derives_from_the_one_in_front_of_it_alone(self):
        for name, (base, _) in table().items():
            with self.subTest(name=name):
                self.assertEqual((getattr(errors, base),), getattr(errors, name).__bases__)
                self.assertEqual("hingerows.errors", getattr(errors, name).__module__)

    def test_there_are_no_others(self):
        classes = [name for name, value in vars(errors).items() if isinstance(value, type)]
        self.assertEqual(sorted([*BASES, *table()]), sorted(classes))
        self.assertEqual(48, len(table()))

    def test_attributes_hold_any_values_by_position_and_by_name(self):
        for name, (_, attributes) in table().items():
            kind = getattr(errors, name)
            for value in strangers() + number_samples() + [[1, [2]], (None, True), {"a": [1]}]:
                by_position = kind(*[value] * len(attributes))
                by_name = kind(**{attribute: value for attribute in attributes})
                for error in (by_position, by_name):
                    self.assertEqual(sorted(attributes), sorted(vars(error)))
                    for attribute in attributes:
                        self.assertIs(value, getattr(error, attribute))

    def test_too_many_tells_what_and_limit(self):
        error = errors.TooMany("degree", 24)
        self.assertEqual(("degree", 24), (error.what, error.limit))
        error = errors.TooMany(limit=6, what="degree")
        self.assertEqual(("degree", 6), (error.what, error.limit))

    def test_bare_errors_are_made_of_nothing(self):
        for name in BARE:
            self.assertEqual({}, vars(getattr(errors, name)()))

    def test_others_want_their_values(self):
        for name, (_, attributes) in table().items():
            if attributes:
                self.assertRaises(TypeError, getattr(errors, name))
