"""The cost of tolls, with a mix of lines and a paper that show it from both sides."""

from linemix.counts import Counts, check_fit
from linemix.errors import TooMany
from linemix.leading import tight_pairs
from linemix.lines import lower_levels
from linemix.mixes import Mix
from linemix.pairs import sure_pairs
from linemix.papers import Paper
from linemix.payments import paid_knots, rows_of, total_of, weights_of
from linemix.wants import wants_of

MOST_TOLLED = 30
# No order of this size or less has more lower sets than a call may walk through.
ALWAYS_FEW = 12


def check_tolled(tolls):
    """Raise TooMany if more pairs are tolled than a cost takes."""
    if len(tolls) > MOST_TOLLED:
        raise TooMany(MOST_TOLLED)


def check_lower_sets(order):
    """Raise TooMany if the order has more lower sets than a call may walk through."""
    if order.size > ALWAYS_FEW:
        lower_levels(order)


def payment_over_rows(order, tolls):
    """Return the parts of a payment, as in linemix.payments; nothing is checked."""
    return paid_knots(order.belows, wants_of(order, tolls), [toll for _, _, toll in tolls.rows])


def _payment_of(order, tolls):
    """Return the parts of a payment, as in linemix.payments."""
    check_fit(order, tolls)
    check_tolled(tolls)
    check_lower_sets(order)
    return payment_over_rows(order, tolls)


def cost(order, tolls):
    """Return the least total of a mix of lines that pays the tolls."""
    return total_of(_payment_of(order, tolls))


def best_mix(order, tolls):
    """Return a mix of lines that pays the tolls, with the least total."""
    parts = _payment_of(order, tolls)
    bottom, rows = rows_of(order.belows, wants_of(order, tolls), parts)
    return Mix(bottom, rows)


def best_paper(order, tolls):
    """Return a paper that holds, with weights at tolled pairs alone, whose value at the tolls is the cost."""
    bottom, weights = weights_of(_payment_of(order, tolls))
    return Paper(bottom, Counts([(tolls.rows[at][0], tolls.rows[at][1], number) for at, number in weights]))


def tight_ones(order):
    """Return the counts 1 at each tight pair, or, for a chain of two or more places, at its least sure pair alone."""
    if order.is_chain():
        return Counts.at(sure_pairs(order)[:1])
    return Counts.at(tight_pairs(order))


def full_cost(order):
    """Return the cost of the toll 1 at all pairs."""
    # Each open pair is tight or led to by a tight one, and a line turns all sure pairs.
    return cost(order, tight_ones(order))
