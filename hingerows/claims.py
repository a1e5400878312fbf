"""Claims, their contraries, and the papers that show that they are true."""

from hingerows.errors import InvalidClaim
from hingerows.papers import is_made_paper, made_paper
from hingerows.texts import is_of

PAIRS = (
    ("row", "rowless"), ("closes", "opens"), ("ends", "lacks"), ("rests", "moves"), ("alike", "unlike"),
    ("four", "broken"),
)
PARTS = {
    "row": ("motion",), "closes": ("row", "row"), "ends": ("motion", "motion"), "rests": ("motion", "point"),
    "alike": ("motion", "motion"), "four": ("row",),
}


def words():
    """The list of the tuples of the two words of each line."""
    return list(PAIRS)


def is_claim(value):
    """Whether any value is a claim."""
    if not isinstance(value, tuple) or not value:
        return False
    word, *parts = value
    wanted = parts_of(word)
    if wanted is None or len(parts) != len(wanted):
        return False
    if not all([is_of(sort, part) for sort, part in zip(wanted, parts)]):
        return False
    return are_within(word, parts)


def is_true(claim):
    """Whether the claim is true."""
    return paper_of(claim) is not None


def contrary(claim):
    """The claim with the other word, and copies of the lists."""
    check_claim(claim)
    word, *parts = claim
    one, other = [pair for pair in PAIRS if word in pair][0]
    turned = other if word == one else one
    return (turned, *[list(part) if isinstance(part, list) else part for part in parts])


def paper_of(claim):
    """A paper of the claim, None if it is not true."""
    check_claim(claim)
    word, *parts = claim
    return made_paper(word, parts)


def is_paper_of(claim, value):
    """Whether any value is a paper of the claim."""
    check_claim(claim)
    word, *parts = claim
    return is_made_paper(word, parts, value)


def check_claim(claim):
    """Raise InvalidClaim unless it is a claim."""
    if not is_claim(claim):
        raise InvalidClaim(claim)


def parts_of(word):
    """The sorts of the parts behind the word, None if any value is no word of a claim."""
    for one, other in PAIRS:
        if word in (one, other):
            return PARTS[one]
    return None


def are_within(word, parts):
    """Whether the parts, of the right sorts, are plain, within the limits and of the right number."""
    if word in ("row", "rowless"):
        return parts[0].is_plain and parts[0].degree <= 4
    if word in ("rests", "moves"):
        return parts[0].is_plain
    if word in ("four", "broken"):
        return len(parts[0]) == 4 and parts[0][0] != parts[0][3]
    return True
