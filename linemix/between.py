"""Orders between a low and a high one, and the ends of their costs and worths."""

from linemix.costs import cost
from linemix.counts import check_fit
from linemix.errors import TooMany
from linemix.orders import Order
from linemix.ties import check_held, check_open
from linemix.tying import three_costs
from linemix.worths import worth

MOST_BETWEEN = 12


def cost_ends(low_order, high_order, tolls):
    """Return the cost in the low order and that in the high one."""
    check_held(low_order, high_order)
    check_fit(high_order, tolls)
    return cost(low_order, tolls), cost(high_order, tolls)


def worth_ends(low_order, high_order, weights):
    """Return the worth in the high order and that in the low one."""
    check_held(low_order, high_order)
    return worth(high_order, weights), worth(low_order, weights)


def is_settled(low_order, high_order, tolls):
    """Tell whether the tolls cost as much in the low order as in the high one, and so in all orders between."""
    least, most = cost_ends(low_order, high_order, tolls)
    return least == most


def _demands(high_order, bits):
    """Return the list of tuples (mask, bit): a set of steps with all of the mask must have the bit, too.

    bits tells the bit of each step that the set may have or lack; it has all others.
    """
    found = []
    for low, middle in high_order.steps_told():
        for high in high_order.above(middle):
            bit = bits.get((low, high), 0)
            if bit:
                found.append((bits.get((low, middle), 0) | bits.get((middle, high), 0), bit))
    return found


def orders_between(low_order, high_order):
    """Return the list of all orders between, by the number of steps, then ascending by their steps."""
    check_held(low_order, high_order)
    free = [step for step in high_order.steps_told() if step not in low_order]
    if len(free) > MOST_BETWEEN:
        raise TooMany(MOST_BETWEEN)
    demands = _demands(high_order, {step: 1 << at for at, step in enumerate(free)})
    found = []
    for mask in range(1 << len(free)):
        if all([mask & asked != asked or mask & bit for asked, bit in demands]):
            chosen = tuple([step for at, step in enumerate(free) if mask >> at & 1])
            found.append(Order(low_order.size, low_order.steps_told() + chosen))
    return sorted(found, key=lambda order: (len(order.steps_told()), order.steps_told()))


def three_worlds(order, tolls, x, y):
    """Return the costs in the order, with x below y, and with y below x, of the tolls at what is a pair of all three.
    """
    check_fit(order, tolls)
    check_open(order, x, y, ("x", "y"))
    return three_costs(order, tolls, x, y)
