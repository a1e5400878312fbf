"""The commands of a desk, by their words alone."""

from hingerows.claims import parts_of
from hingerows.eights import Eight
from hingerows.numerals import pair_in, ratio_in, ratios_in

LETTERS = "abcdefghijklmnopqrstuvwxyz"
FIGURES = "0123456789"

# What stands behind each word. In small letters stand the kinds of kept things one of which is wanted under a name
# ("like": the kind of the first one); NEW and NOTE are names that are not taken yet, LABEL one that is noted.
FORMS = {
    "eight": ("NEW", "PAIR"),
    "point": ("NEW", "POINT"),
    "hinge": ("NEW", "POINT", "POINT", "NUMBER", "NUMBER"),
    "row": ("NEW", "NAMES"),
    "motion": ("NEW", "NAMES"),
    "make": ("NEW", "row"),
    "solve": ("NEW", "motion", "COUNT"),
    "part": ("NEW", "motion", "NUMBERS"),
    "copy": ("NEW", "eight point row motion"),
    "times": ("NEW", "eight motion", "like"),
    "undone": ("NEW", "eight"),
    "mirror": ("NEW", "eight motion"),
    "exchange": ("row", "COUNT"),
    "lead": ("point row motion", "eight"),
    "change": ("motion", "TABLE"),
    "more": ("row", "eight"),
    "less": ("row", "COUNT"),
    "drop": ("eight point row motion",),
    "forget": ("LABEL",),
    "undo": (),
    "redo": (),
    "state": ("LABEL",),
    "states": (),
    "claimed": ("LABEL",),
    "names": (),
    "shown": ("eight point row motion",),
    "norm": ("eight motion",),
    "line": ("eight",),
    "far": ("eight", "eight"),
    "sine": ("eight", "eight"),
    "kind": ("eight", "eight"),
    "same": ("eight", "eight"),
    "between": ("eight", "eight"),
    "degree": ("motion",),
    "plain": ("motion",),
    "rows": ("motion",),
    "frames": ("motion",),
    "within": ("motion", "motion"),
    "spot": ("motion", "point", "NUMBER"),
    "fallen": ("motion", "point"),
    "bennett": ("row",),
}
DEEDS = (
    "eight", "point", "hinge", "row", "motion", "make", "solve", "part", "copy", "times", "undone", "mirror",
    "exchange", "lead", "change", "more", "less", "drop", "claim", "forget",
)


def is_name(value):
    """Whether any value is a name: one to eight small letters and figures, the first one a letter."""
    if not isinstance(value, str) or not 1 <= len(value) <= 8:
        return False
    return value[0] in LETTERS and all([sign in LETTERS or sign in FIGURES for sign in value])


def is_command(value):
    """Whether any value is a string that is a command by its words alone."""
    if not isinstance(value, str):
        return False
    word, *parts = value.split(" ")
    form = form_of(word, parts)
    if form is None or len(form) != len(parts):
        return False
    return all([worth_in(slot, part) is not None for slot, part in zip(form, parts)])


def is_deed(value):
    """Whether any value is a command that is a deed."""
    return is_command(value) and value.split(" ")[0] in DEEDS


def told_parts(command):
    """The list of what stands behind a command's word: tuples of what is wanted there and what it tells."""
    word, *parts = command.split(" ")
    return [(slot, worth_in(slot, part)) for slot, part in zip(form_of(word, parts), parts)]


def form_of(word, parts):
    """What has to stand behind the word, None if there is no such command."""
    if word != "claim":
        return FORMS.get(word)
    wanted = parts_of(parts[1]) if len(parts) > 1 else None
    return None if wanted is None else ("NOTE", "CLAIM", *wanted)


def name_in(part):
    """The name that the part is."""
    return part if is_name(part) else None


def names_in(part):
    """The list of one to seven names, with commas between."""
    found = part.split(",")
    return found if len(found) <= 7 and all([is_name(one) for one in found]) else None


def count_in(part):
    """The COUNT that the part is, of thirty figures at most."""
    number = ratio_in(part, 30)
    if number is None or number.sign < 0 or not number.is_whole:
        return None
    return number.top


def number_in(part):
    """The Ratio that the part is, with six figures at most above and below."""
    return ratio_in(part, 6)


def numbers_in(part):
    """The list of one to 25 Ratios that the part is."""
    numbers = ratios_in(part, 6)
    return None if numbers is None or len(numbers) > 25 else numbers


def point_in(part):
    """The tuple of three Ratios that the part is."""
    numbers = ratios_in(part, 6)
    return None if numbers is None or len(numbers) != 3 else tuple(numbers)


def eight_in(part):
    """The Eight that the part is, two FOURS."""
    pair = pair_in(part, 4, 6)
    return None if pair is None else Eight(pair[0], pair[1])


def table_in(part):
    """The tuple of two tuples of two Ratios that the part is."""
    return pair_in(part, 2, 6)


def claim_in(part):
    """The word of a claim that the part is."""
    return None if parts_of(part) is None else part


READERS = {
    "NAMES": names_in, "COUNT": count_in, "NUMBER": number_in, "NUMBERS": numbers_in, "POINT": point_in,
    "PAIR": eight_in, "TABLE": table_in, "CLAIM": claim_in,
}


def worth_in(slot, part):
    """What the part of a command tells that stands where this is wanted, None if it does not belong there."""
    if slot not in READERS:
        return name_in(part)
    read_part = READERS[slot]
    return read_part(part)
