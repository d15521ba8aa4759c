"""The order in two rows: each place once below and once above, with all rings of the order and no others."""

from linemix.counts import Counts, check_fit
from linemix.orders import Order
from linemix.pairs import reaches


def two_rows(order):
    """Return the order in which x is below n + y if x is under y, for orders of n places."""
    places = range(order.size)
    return Order(2 * order.size, [(x, order.size + y) for x in places for y in places if reaches(order, x, y)])


def two_row_counts(order, counts):
    """Return the counts of (x, y) at (x, n + y)."""
    check_fit(order, counts)
    return Counts([(x, order.size + y, number) for x, y, number in counts.rows])
