"""What the deeds of a desk make of what it keeps and notes."""

from hingerows.changes import changed, led_motion, led_row
from hingerows.claims import is_claim
from hingerows.errors import InvalidClaim, InvalidPosition, InvalidRow, TooMany
from hingerows.exchanges import exchanged
from hingerows.lines import hinge_by, line_through
from hingerows.motions import Motion, is_row, row_motion
from hingerows.parts import right_part
from hingerows.poses import led
from hingerows.rows import rows
from hingerows.shelves import copied, worths_of

# Each function is passed what the table of commands tells behind a word, but for the name of something new.


def same_thing(thing):
    """The thing as it is."""
    return thing


def hinge_about(point, other, number, scale):
    """The hinge about the line through two points."""
    return hinge_by(line_through(point, other), number, scale)


def checked_row(eights):
    """The list of the Eights, if it is a row."""
    if not is_row(eights):
        raise InvalidRow(eights)
    return eights


def motion_by(eights):
    """The Motion of the Eights."""
    return Motion(eights)


def motion_of(row):
    """The Motion of the row."""
    return row_motion(row)


def row_at(motion, position):
    """The row at this position among all rows of the motion."""
    found = rows(motion)
    if position >= len(found):
        raise InvalidPosition(position)
    return found[position]


def part_of(motion, poly):
    """The right part with this norm."""
    return right_part(motion, poly)


def product_of(thing, other):
    """The product of two Eights or two motions."""
    return thing * other


def undone_eight(eight):
    """The Eight undone."""
    return eight.undone()


def mirror_of(thing):
    """The conjugate of an Eight or a motion."""
    return thing.mirror()


def exchanged_row(row, place):
    """The row exchanged at the place."""
    return exchanged(row, place)


def led_thing(thing, pose):
    """The point, the row or the motion led by the pose."""
    if isinstance(thing, Motion):
        return led_motion(thing, pose)
    return led_row(thing, pose) if isinstance(thing, list) else led(pose, thing)


def changed_motion(motion, table):
    """The motion changed by the table."""
    return changed(motion, table)


def longer_row(row, hinge):
    """The row with one hinge more at its end."""
    return checked_row([*row, hinge])


def shorter_row(row, position):
    """The row without the hinge at this position."""
    if position >= len(row):
        raise InvalidPosition(position)
    return checked_row([*row[:position], *row[position + 1:]])


MAKERS = {
    "eight": same_thing, "point": same_thing, "hinge": hinge_about, "row": checked_row, "motion": motion_by,
    "make": motion_of, "solve": row_at, "part": part_of, "copy": same_thing, "times": product_of,
    "undone": undone_eight, "mirror": mirror_of, "exchange": exchanged_row, "lead": led_thing,
    "change": changed_motion, "more": longer_row, "less": shorter_row,
}


def shelf_after(shelf, word, parts):
    """The shelf behind the deed with this word and these told parts, the names in them as they are wanted."""
    subject = parts[0][1]
    if word == "drop":
        return shelf.without_thing(subject)
    if word == "forget":
        return shelf.without_note(subject)
    if word == "claim":
        return shelf_with_claim(shelf, subject, [worth for _, worth in parts[1:]])
    make = MAKERS[word]
    worths = worths_of(shelf, parts)
    thing = make(*worths)
    if subject not in shelf.things and len(shelf.things) >= 10:
        raise TooMany("names", 10)
    return shelf.with_thing(subject, thing)


def shelf_with_claim(shelf, label, words):
    """The shelf with the claim of these words noted under the label."""
    claim = (words[0], *[copied(shelf.things[name]) for name in words[1:]])
    if not is_claim(claim):
        raise InvalidClaim(claim)
    if len(shelf.notes) >= 12:
        raise TooMany("labels", 12)
    return shelf.with_note(label, tuple(words))
