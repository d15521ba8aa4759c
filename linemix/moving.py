"""Weights that are moved to pairs that lead to others, and tolls that fall along with them."""

from linemix.counts import Counts, check_fit
from linemix.errors import BadPair
from linemix.leading import leads, led_by, tight_for
from linemix.pairs import open_pairs, pair_in


def falls(order, tolls):
    """Tell whether no open pair has a greater toll than an open pair that leads to it."""
    check_fit(order, tolls)
    for pair in open_pairs(order):
        if _greatest_at(order, tolls, led_by(order, pair)) > tolls[pair]:
            return False
    return True


def _greatest_at(order, tolls, lot):
    """Return the greatest toll at open pairs of the lot, 0 if there is none."""
    return max([tolls[x, y] for x, y in lot if order.are_open(x, y)], default=0)


def moved(order, weights, pair, other):
    """Return the weights with that at pair put to other, which leads to pair."""
    check_fit(order, weights)
    x, y = pair_in(order, pair)
    if not leads(order, pair_in(order, other), (x, y)):
        raise BadPair(-1)
    up, down = other
    return weights.with_count(up, down, weights[up, down] + weights[x, y]).with_count(x, y, 0)


def moved_down(order, weights):
    """Return the weights with that of each open pair put to its tight_for."""
    check_fit(order, weights)
    sums = {}
    for x, y, number in weights.rows:
        goal = tight_for(order, (x, y)) or (x, y)
        sums[goal] = sums.get(goal, 0) + number
    return Counts([(x, y, sums[x, y]) for x, y in sums])
