"""The worth of weights: what the richest line earns."""

from linemix.counts import check_fit
from linemix.lines import free_places, lower_levels
from linemix.masks import full_mask


def _gains_of(order, weights):
    """Return for each place x the list of the tuples (mask of y, weight of (x, y))."""
    gains = [[] for _ in range(order.size)]
    for x, y, number in weights.rows:
        gains[x].append((1 << y, number))
    return gains


def _best_beginnings(order, weights):
    """Return a dict from the mask of each lower set to a tuple of two.

    These are the most that a beginning of a line with just these places earns, and the last place of such a beginning.
    """
    check_fit(order, weights)
    gains = _gains_of(order, weights)
    full = full_mask(order.size)
    best = {0: (0, None)}
    for level in lower_levels(order)[:-1]:
        for mask in level:
            for place in free_places(order.belows, full ^ mask):
                earned = best[mask][0] + sum([number for bit, number in gains[place] if mask & bit])
                grown = mask | (1 << place)
                if grown not in best or earned > best[grown][0]:
                    best[grown] = (earned, place)
    return best


def worth(order, weights):
    """Return the greatest sum of weights that one line turns."""
    return _best_beginnings(order, weights)[full_mask(order.size)][0]


def richest(order, weights):
    """Return a line that turns weights of the worth."""
    best = _best_beginnings(order, weights)
    left = full_mask(order.size)
    line = ()
    while left:
        place = best[left][1]
        line = (place,) + line
        left = left ^ (1 << place)
    return line
