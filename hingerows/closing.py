"""Chains of four hinges, by exchanges."""

from hingerows.chains import closes
from hingerows.eights import check_hinge
from hingerows.errors import AlikeNorms
from hingerows.exchanges import exchanged, hinge_norm
from hingerows.motions import is_row


def chain_of_four(hinge, other):
    """The tuple (h1, h2, k2, k1) of two hinges and the other two that make the same motion."""
    check_hinge(hinge)
    check_hinge(other)
    if hinge_norm(hinge) == hinge_norm(other):
        raise AlikeNorms()
    first, last = exchanged([hinge, other], 0)
    return (hinge, other, last, first)


def is_chain_of_four(value):
    """Whether any value is a list of four hinges h1, h2, k2, k1 that close so, h1 not k1."""
    if not is_row(value) or len(value) != 4:
        return False
    one, two, last, first = value
    return one != first and closes([one, two], [first, last])
