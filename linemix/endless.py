"""What tolls cost if one of them grows without end."""

from linemix.costs import cost
from linemix.counts import Counts, check_fit, kept_on
from linemix.errors import BadPair
from linemix.pairs import are_against, pair_in
from linemix.ties import tied


def open_pair(order, tolls, pair):
    """Return the open pair that is told, for tolls that fit the order."""
    check_fit(order, tolls)
    x, y = pair_in(order, pair)
    if not order.are_open(x, y):
        raise BadPair(-1)
    return x, y


def tolls_against(order, tolls, pair):
    """Return the tolls at the pairs that are against the open pair."""
    told = open_pair(order, tolls, pair)
    # No sure pair is against another one.
    return Counts([(x, y, toll) for x, y, toll in tolls.rows if are_against(order, told, (x, y))])


def beyond(order, tolls, pair):
    """Return the cost, with the open pair told by a step, of the tolls neither at it nor at pairs against it."""
    x, y = open_pair(order, tolls, pair)
    beside = tied(order, (y, x))
    # The pairs against (x, y) are just those that are no pairs any more.
    return cost(beside, kept_on(beside, tolls.with_count(x, y, 0)))


def endless(order, tolls, pair):
    """Return beyond, and the cost of the tolls against the open pair."""
    return beyond(order, tolls, pair), cost(order, tolls_against(order, tolls, pair))
