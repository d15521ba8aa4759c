"""What many times the tolls cost in whole lines."""

from linemix.costs import cost, full_cost
from linemix.counts import check_fit
from linemix.errors import TooMany
from linemix.leading import tight_pairs
from linemix.lots import most_at_once
from linemix.numbers import add_up, check_number, lowest
from linemix.rings import listed_lot
from linemix.wholes import MOST_IN_ALL, check_few, whole_cost


def whole_many(order, tolls, many):
    """Return the whole cost of so many times the tolls."""
    check_fit(order, tolls)
    check_number(many, "many", 1, None)
    return whole_cost(order, tolls * many)


def least_times(order, tolls):
    """Return the least number of times that the tolls cost as much in whole lines as in parts of lines."""
    check_few(order, tolls)
    top, bottom = cost(order, tolls)
    # Only so many times the cost is a whole number.
    many = bottom
    while tolls.total_count() * many <= MOST_IN_ALL:
        if whole_cost(order, tolls * many) * bottom == top * many:
            return many
        many = many + bottom
    raise TooMany(MOST_IN_ALL)


def greedy_bound(order):
    """Return (1 + 1/2 + .. + 1/m) times the full cost, m being the most tight pairs that one line turns; 0 for a chain.
    """
    tight = listed_lot(order, tight_pairs(order))
    top, bottom = full_cost(order)
    # A chain has no tight pairs, and so the sum 0.
    total = (0, 1)
    for part in range(1, most_at_once(order, tight) + 1):
        total = add_up(total, (1, part))
    return lowest(top * total[0], bottom * total[1])
