"""How a desk answers the commands that are no deeds."""

from hingerows.bennett import is_bennett
from hingerows.eights import Eight
from hingerows.likeness import frames
from hingerows.lines import far, kind, line_of, sine
from hingerows.meets import within
from hingerows.numerals import eight_text, numbers_text, pair_text
from hingerows.paths import fallen
from hingerows.places import spots_at
from hingerows.poses import same_pose
from hingerows.rows import row_count
from hingerows.shelves import kind_of, worths_of
from hingerows.through import between


def yes_or_no(holds):
    """How it is answered whether something is so."""
    return "yes" if holds else "no"


def states_text(states, labels):
    """The states of these labels, `-` for none."""
    return ", ".join([f"{label} {states[label]}" for label in labels]) or "-"


def changes_text(shelf, later):
    """The states of the labels of the later shelf that are other ones than ahead of it."""
    states = later.states
    return states_text(states, [label for label in sorted(list(states)) if shelf.states.get(label) != states[label]])


def shown_text(thing):
    """The thing of whichever kind."""
    if isinstance(thing, (Eight, tuple)):
        numbers = eight_text(thing) if isinstance(thing, Eight) else numbers_text(thing)
        return f"{kind_of(thing)} {numbers}"
    eights = thing if isinstance(thing, list) else thing.eights()
    return " ".join([kind_of(thing), *[eight_text(eight) for eight in eights]])


def norm_text(thing):
    """The two numbers of an Eight's norm, or the polynomial of a motion's."""
    return numbers_text(thing.norm())


def line_text(hinge):
    """The told line of the hinge."""
    return pair_text(line_of(hinge))


def far_text(hinge, other):
    """How far the lines of two hinges are from each other, squared."""
    return str(far(line_of(hinge), line_of(other)))


def sine_text(hinge, other):
    """The square of the sine of the angle of both lines."""
    return str(sine(line_of(hinge), line_of(other)))


def kind_text(hinge, other):
    """How both lines lie."""
    return kind(line_of(hinge), line_of(other))


def same_text(pose, other):
    """Whether two poses are the same."""
    return yes_or_no(same_pose(pose, other))


def between_text(pose, other):
    """The between of two poses."""
    return str(between(pose, other))


def degree_text(motion):
    """The degree of the motion."""
    return str(motion.degree)


def plain_text(motion):
    """Whether the motion is plain."""
    return yes_or_no(motion.is_plain)


def rows_text(motion):
    """How many rows the motion has."""
    return str(row_count(motion))


def frames_text(motion):
    """The free number of the eights that go along with the motion."""
    return str(frames(motion))


def within_text(motion, other):
    """Whether the motion is a right part of the other one."""
    return yes_or_no(within(motion, other))


def spot_text(motion, point, number):
    """The spot of the point at the number."""
    return numbers_text(spots_at(motion, point, number))


def fallen_text(motion, point):
    """What has fallen out for the point."""
    return numbers_text(fallen(motion, point))


def bennett_text(row):
    """Whether the four hinges keep Bennett's rule."""
    return yes_or_no(is_bennett(row))


TELLERS = {
    "shown": shown_text, "norm": norm_text, "line": line_text, "far": far_text, "sine": sine_text, "kind": kind_text,
    "same": same_text, "between": between_text, "degree": degree_text, "plain": plain_text, "rows": rows_text,
    "frames": frames_text, "within": within_text, "spot": spot_text, "fallen": fallen_text, "bennett": bennett_text,
}


def answer_by(shelf, word, parts):
    """The answer to the command with this word and these told parts, the names in them as they are wanted."""
    if word == "names":
        return " ".join(sorted(list(shelf.things))) or "-"
    if word == "states":
        return states_text(shelf.states, sorted(list(shelf.states)))
    if word == "state":
        return shelf.states[parts[0][1]]
    if word == "claimed":
        return " ".join(shelf.notes[parts[0][1]])
    tell = TELLERS[word]
    worths = worths_of(shelf, parts)
    return tell(*worths)
