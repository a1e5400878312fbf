"""Motions: polynomials of eights whose norm is a polynomial of numbers."""

from hingerows.basics import is_list
from hingerows.eights import Eight, check_hinge, is_hinge_eight, number_eight
from hingerows.errors import HeadNotOne, InvalidEights, InvalidMotion, InvalidRow, NotMotion, TooMany
from hingerows.polys import common, plus, products, times, worth_at
from hingerows.ratios import told_number


class Motion:
    """A motion of degree 1 to 6, made of its eights, the one without t first."""

    def __init__(self, eights):
        if not is_list(eights) or len(eights) < 2 or len(eights) > 7:
            raise InvalidEights(None)
        for place, eight in enumerate(eights):
            if not isinstance(eight, Eight):
                raise InvalidEights(place)
        if eights[-1] != number_eight(1):
            raise HeadNotOne()
        firsts = columns([eight.first() for eight in eights])
        seconds = columns([eight.second() for eight in eights])
        # The second part of the norm is twice this sum, so it is nought exactly if the sum is.
        if paired(firsts, seconds):
            raise NotMotion()
        self._eights = tuple(eights)
        self._norm = tuple(paired(firsts, firsts))

    @property
    def degree(self):
        """The greatest power of t."""
        return len(self._eights) - 1

    @property
    def is_plain(self):
        """Whether no polynomial of numbers of degree 1 and more divides the first part."""
        return len(number_part(self)) == 1

    def eights(self):
        """The list of the eights, the one without t first."""
        return list(self._eights)

    def norm(self):
        """The norm, a told polynomial."""
        return list(self._norm)

    def mirror(self):
        """The Motion with conjugate eights."""
        return Motion([eight.mirror() for eight in self._eights])

    def worth(self, number):
        """The Eight that comes of the number in the place of t."""
        place = number_eight(told_number(number))
        return worth_at(self._eights, place, number_eight(0))

    def __mul__(self, other):
        check_motion(other)
        if self.degree + other.degree > 6:
            raise TooMany("degree", 6)
        return Motion(products(self._eights, other._eights, number_eight(0)))

    def __eq__(self, other):
        return isinstance(other, Motion) and self._eights == other._eights

    def __repr__(self):
        return f"Motion({list(self._eights)!r})"


def hinge_motion(hinge):
    """The Motion t - h of a hinge h."""
    check_hinge(hinge)
    return Motion([-hinge, number_eight(1)])


def row_motion(row):
    """The Motion of a row, the product of its hinges' motions in their sequence."""
    if not is_row(row):
        raise InvalidRow(row)
    motion = hinge_motion(row[0])
    for hinge in row[1:]:
        motion = motion * hinge_motion(hinge)
    return motion


def number_part(motion):
    """The part of numbers: the common part of the four polynomials of the first part."""
    check_motion(motion)
    part = []
    for column in columns([eight.first() for eight in motion.eights()]):
        part = common(part, column)
    return part


def is_row(value):
    """Whether any value is a row, a list of 1 to 6 hinges."""
    return is_list(value) and 1 <= len(value) <= 6 and all([is_hinge_eight(hinge) for hinge in value])


def check_motion(motion):
    """Raise InvalidMotion unless it is a Motion."""
    if not isinstance(motion, Motion):
        raise InvalidMotion(motion)


def columns(fours):
    """The four polynomials that stand in a polynomial of fours for 1, i, j, k."""
    return [[four[place] for four in fours] for place in range(4)]


def paired(ones, others):
    """The told sum of the products of the polynomials at each place."""
    result = []
    for one, other in zip(ones, others):
        result = plus(result, times(one, other))
    return result
