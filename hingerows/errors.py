"""The errors of the package, each kind of failure with a class of its own."""


class HingeError(ValueError):
    """A value is not of the kind that is wanted."""


class InvalidEight(HingeError):
    """The value is no Eight."""

    def __init__(self, value):
        self.value = value


class InvalidFour(HingeError):
    """The value is no FOUR."""

    def __init__(self, value):
        self.value = value


class InvalidHinge(HingeError):
    """The value is no Eight that is a hinge."""

    def __init__(self, value):
        self.value = value


class InvalidLine(HingeError):
    """The value is no LINE."""

    def __init__(self, value):
        self.value = value


class InvalidMotion(HingeError):
    """The value is no Motion."""

    def __init__(self, value):
        self.value = value


class InvalidNumber(HingeError):
    """The value is no NUMBER, or not the one that is wanted."""

    def __init__(self, value):
        self.value = value


class InvalidPlace(HingeError):
    """The value is no place within the bounds."""

    def __init__(self, value):
        self.value = value


class InvalidPoint(HingeError):
    """The value is no POINT."""

    def __init__(self, value):
        self.value = value


class InvalidPoly(HingeError):
    """The value is no polynomial."""

    def __init__(self, value):
        self.value = value


class InvalidPose(HingeError):
    """The value is no Eight that is a pose."""

    def __init__(self, value):
        self.value = value


class InvalidRow(HingeError):
    """The value is no row of hinges."""

    def __init__(self, value):
        self.value = value


class InvalidClaim(HingeError):
    """The value is no claim."""

    def __init__(self, value):
        self.value = value


class InvalidCommand(HingeError):
    """The value is no command."""

    def __init__(self, value):
        self.value = value


class InvalidDivisor(HingeError):
    """The value is no divisor of the norm."""

    def __init__(self, value):
        self.value = value


class InvalidEights(HingeError):
    """There is no list of eights, or no Eight at the position."""

    def __init__(self, position):
        self.position = position


class InvalidHinges(HingeError):
    """There is no list of hinges, or no hinge at the position."""

    def __init__(self, position):
        self.position = position


class InvalidLines(HingeError):
    """There is no list of lines, or no deed at the position."""

    def __init__(self, position):
        self.position = position


class InvalidPaper(HingeError):
    """The value is no paper of the claim."""

    def __init__(self, value):
        self.value = value


class InvalidPoses(HingeError):
    """There is no list of poses, or no pose at the position."""

    def __init__(self, position):
        self.position = position


class InvalidPosition(HingeError):
    """The value is no position there."""

    def __init__(self, value):
        self.value = value


class InvalidScale(HingeError):
    """The value is no NUMBER, or it is 0."""

    def __init__(self, value):
        self.value = value


class InvalidSequence(HingeError):
    """The value is no sequence of the norm."""

    def __init__(self, value):
        self.value = value


class InvalidSort(HingeError):
    """The value is no word of a sort."""

    def __init__(self, value):
        self.value = value


class InvalidTable(HingeError):
    """The value is no table of four NUMBERS that can be undone."""

    def __init__(self, value):
        self.value = value


class InvalidText(HingeError):
    """The text is wrong at the line."""

    def __init__(self, line):
        self.line = line


class InvalidThing(HingeError):
    """The value is not of the sort."""

    def __init__(self, value):
        self.value = value


class MissingError(LookupError):
    """Something is looked up that is not there."""


class UnknownLabel(MissingError):
    """Nothing is noted under the label."""

    def __init__(self, value):
        self.value = value


class UnknownName(MissingError):
    """Nothing is kept under the name."""

    def __init__(self, value):
        self.value = value


class StateError(RuntimeError):
    """Values of the right kind do not allow what is asked."""


class DividedByZero(StateError):
    """Nothing is divided by 0."""


class NoughtPoly(StateError):
    """The polynomial is nought."""


class NotUndone(StateError):
    """What is nought is not undone."""


class HeadNotOne(StateError):
    """The head is not 1."""


class NotPlain(StateError):
    """The motion is not plain."""


class AlikeNorms(StateError):
    """The norms of both hinges are equal."""


class CommandFailed(StateError):
    """The command at the position failed."""

    def __init__(self, position):
        self.position = position


class LabelTaken(StateError):
    """A claim is noted under the label already."""

    def __init__(self, label):
        self.label = label


class NameTaken(StateError):
    """Something is kept under the name already."""

    def __init__(self, name):
        self.name = name


class NoPose(StateError):
    """The motion does not stand at the number."""


class NotApart(StateError):
    """The poses are not apart."""


class NotClosed(StateError):
    """The rows do not close."""


class NotMotion(StateError):
    """The norm has a second part."""


class NotPart(StateError):
    """The motion is no right part of lesser degree."""


class NothingToRedo(StateError):
    """No deed can be done again."""


class NothingToUndo(StateError):
    """No deed can be taken back."""


class SamePoint(StateError):
    """Both points are the same."""


class SharedEnd(StateError):
    """The rows share their first hinge, or their last one."""


class WrongThing(StateError):
    """Another kind of thing is kept under the name."""

    def __init__(self, name):
        self.name = name


class LimitError(ArithmeticError):
    """More is asked than the limits let."""


class TooMany(LimitError):
    """There would be more of something than its limit."""

    def __init__(self, what, limit):
        self.what = what
        self.limit = limit
