"""Odd rounds of tight pairs, each against the next one, which keep an order from being even."""

from linemix.errors import NoPairs
from linemix.leading import tight_pairs
from linemix.numbers import lowest
from linemix.pairs import are_against


def _met_around(rivals, start):
    """Return the shortest odd round that starts there, as a list of numbers, None if there is none.

    rivals holds for each number the list of those against it. Only the shortest one of all starts is sure to have no
    number twice.
    """
    ways = {start: [start]}
    level = [start]
    while level:
        for at in level:
            # Two numbers as far from the start as one another close an odd round if they are against one another.
            beside = [other for other in rivals[at] if other in ways and len(ways[other]) == len(ways[at])]
            if beside:
                return ways[at] + ways[beside[0]][:0:-1]
        wider = {}
        for at in level:
            for other in rivals[at]:
                if other not in ways:
                    wider.setdefault(other, ways[at] + [other])
        ways.update(wider)
        level = list(wider)
    return None


def odd_round(order):
    """Return an odd round of different tight pairs with the least number of pairs, None if there is none."""
    tight = tight_pairs(order)
    rivals = [[at for at, other in enumerate(tight) if are_against(order, pair, other)] for pair in tight]
    rounds = [_met_around(rivals, start) for start in range(len(tight))]
    found = sorted([met for met in rounds if met is not None], key=len)
    return tuple([tight[at] for at in found[0]]) if found else None


def odd_bound(order):
    """Return 2 + 1/k for an odd round of 2k + 1 pairs, 2 if there is none; the full cost is at least this."""
    if order.is_chain():
        raise NoPairs()
    met = odd_round(order)
    return (2, 1) if met is None else lowest(2 * len(met), len(met) - 1)
