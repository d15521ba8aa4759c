"""Costs on the way to an order: tie by tie, and place by place."""

from linemix.costs import cost, full_cost
from linemix.counts import check_fit
from linemix.orders import Order
from linemix.ties import tie_path, tied


def tie_walk(order, tolls):
    """Return a list of tuples (u, v, cost): single ties from no steps to the order, each with the cost behind it."""
    check_fit(order, tolls)
    reached = Order.empty(order.size)
    walk = []
    for low, high in tie_path(reached, order):
        reached = tied(reached, (low, high))
        walk.append((low, high, cost(reached, tolls)))
    return walk


def place_walk(order):
    """Return a list of tuples (x, full cost of the order on the places 0 .. x)."""
    return [(x, full_cost(order.on(list(range(x + 1))))) for x in range(order.size)]
