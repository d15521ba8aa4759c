"""How the cost rises with one toll, and the shares that a pair can have in best mixes."""

from linemix.costs import best_mix, cost
from linemix.endless import open_pair
from linemix.errors import BadPair
from linemix.faces import check_faced, cost_shift, share_reached
from linemix.mixes import Mix
from linemix.numbers import add_up, check_number


def _faced_pair(order, tolls, pair):
    """Return the open pair that is told, for tolls that fit the order and are few."""
    told = open_pair(order, tolls, pair)
    check_faced(order, tolls)
    return told


def cost_at(order, tolls, pair, toll):
    """Return the cost with the toll of the pair set to this one."""
    x, y = open_pair(order, tolls, pair)
    check_number(toll, "toll", 0, None)
    check_faced(order, tolls)
    return cost(order, tolls.with_count(x, y, toll))


def rise(order, tolls, pair):
    """Return the greatest weight of the pair in best papers."""
    return cost_shift(order, tolls, [_faced_pair(order, tolls, pair)], 1)


def drop(order, tolls, pair):
    """Return the least weight of the pair in best papers."""
    told = open_pair(order, tolls, pair)
    if tolls[told] == 0:
        raise BadPair(-1)
    check_faced(order, tolls)
    top, bottom = cost_shift(order, tolls, [told], -1)
    return -top, bottom


def greatest_share(order, tolls, pair):
    """Return the greatest share of the pair in best mixes."""
    return share_reached(order, tolls, _faced_pair(order, tolls, pair))


def least_share(order, tolls, pair):
    """Return the least share of the pair in best mixes."""
    x, y = _faced_pair(order, tolls, pair)
    # Each line of a best mix turns either the pair or its opposite.
    top, bottom = share_reached(order, tolls, (y, x))
    return add_up(cost(order, tolls), (-top, bottom))


def critical_toll(order, tolls, pair):
    """Return the greatest toll of the pair with which the tolls cost no more than with 0 there."""
    x, y = _faced_pair(order, tolls, pair)
    return share_reached(order, tolls.with_count(x, y, 0), (x, y))


def share_mix(order, tolls, pair, *, least=False):
    """Return a best mix in which the share of the pair is the greatest, or the least."""
    x, y = _faced_pair(order, tolls, pair)
    high, low = (y, x) if least else (x, y)
    top, bottom = share_reached(order, tolls, (high, low))
    # As so great a share is reached, asking for it as a toll costs no more.
    mix = best_mix(order, (tolls * bottom).with_count(high, low, top))
    return Mix(mix.bottom * bottom, mix.rows)
