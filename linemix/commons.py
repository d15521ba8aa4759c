"""The common steps of two orders of one size, and what tolls cost there."""

from linemix.costs import cost
from linemix.counts import Counts, check_fit
from linemix.errors import OtherSize
from linemix.numbers import add_up
from linemix.products import check_both


def _check_sizes(one, other):
    """Raise OtherSize unless both orders have as many places."""
    if one.size != other.size:
        raise OtherSize(other.size)


def common_steps(one, other):
    """Return the order of the steps that both orders have."""
    return one & other


def common_mix(one, other, mix, mixes):
    """Return the sum of a mix of lines of the one order and one of the other."""
    _check_sizes(one, other)
    check_both(one, other, mix, mixes)
    return mix + mixes


def common_bound(one, tolls, other, others):
    """Return the sum of the costs of the tolls in the one order and of the others in the other."""
    check_fit(one, tolls)
    _check_sizes(one, other)
    check_fit(other, others)
    return add_up(cost(one, tolls), cost(other, others))


def flipped(counts):
    """Return the counts of (x, y) at (y, x)."""
    return Counts([(y, x, number) for x, y, number in counts.rows])
