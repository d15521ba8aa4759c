"""Rates at points, and what they tell of costs."""

from math import lcm

from linemix.counts import Counts
from linemix.families import check_points, point_lot
from linemix.leading import tight_pairs
from linemix.numbers import greater_of, lowest, rates_told
from linemix.pairs import reaches


def _sum_at(family, rates, a, j):
    """Return the sum of the rates over the point a and the points of lot j."""
    return rates[a] + sum([rates[point] for point in family.lots[j]])


def rate_tolls(family, lot, rates):
    """Return the rate tolls at a lot of point pairs, times a factor that makes them whole, and this factor."""
    pairs = point_lot(family, lot)
    told = rates_told(rates, family.points, 1)
    factor = 1
    for a, j in pairs:
        factor = lcm(factor, _sum_at(family, told, a, j))
    return Counts([(a, j, told[a] * (factor // _sum_at(family, told, a, j))) for a, j in pairs]), factor


def rate_bound(family, tolls, rates):
    """Return the greatest of the tolls divided by the rate tolls, which is at least the cost."""
    check_points(family, tolls)
    told = rates_told(rates, family.points, 1)
    bound = (0, 1)
    for a, j, toll in tolls.rows:
        bound = greater_of(bound, lowest(toll * _sum_at(family, told, a, j), told[a]))
    return bound


def lot_bound(order):
    """Return 1 plus the most places x of tight pairs that are under the y of one; for a chain 1, for one place 0."""
    if order.size == 1:
        return 0
    tight = tight_pairs(order)
    chosen = sorted({x for x, _ in tight})
    return 1 + max([len([x for x in chosen if reaches(order, x, y)]) for _, y in tight], default=0)
