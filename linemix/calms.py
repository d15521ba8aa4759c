"""Corners of lots: the least ways to give weights to pairs so that each least ring gets 1 in all."""

from math import gcd

from linemix.counts import Counts
from linemix.errors import TooMany
from linemix.masks import places_in
from linemix.pairs import lot_of
from linemix.rings import ring_masks

MOST_CORNERED = 5

# A ray is a tuple (values, met). values holds a bottom and a number for each pair, all at least 0 and without a common
# divisor; met is the mask of the demands that the ray meets just. Each number, and the bottom, is asked to be at least
# 0, and the numbers over each ring to sum to at least the bottom. So rays with a bottom above 0 tell the corners.


def _cornered_lot(order, lot):
    """Return the lot told if it is not too great for listing its corners."""
    pairs = lot_of(order, lot)
    if len(pairs) > MOST_CORNERED:
        raise TooMany(MOST_CORNERED)
    return pairs


def _first_rays(many):
    """Return the rays of the demands that the bottom and so many numbers are at least 0."""
    entries = range(many + 1)
    all_met = (1 << (many + 1)) - 1
    return [(tuple([1 if at == other else 0 for other in entries]), all_met ^ (1 << at)) for at in entries]


def _excess(values, ring):
    """Return the sum of the numbers over the ring, a mask of numbers of pairs, less the bottom."""
    return sum([values[at + 1] for at in places_in(ring)]) - values[0]


def _between(high, low, ring, demand):
    """Return the ray between two rays that meets the demand of the ring just, one being above and one below it."""
    over = _excess(high[0], ring)
    under = -_excess(low[0], ring)
    values = [under * value + over * other for value, other in zip(high[0], low[0])]
    divisor = 0
    for value in values:
        divisor = gcd(divisor, value)
    return tuple([value // divisor for value in values]), high[1] & low[1] | demand


def _are_neighbours(high, low, rays):
    """Tell whether no other ray meets all demands that both rays meet."""
    shared = high[1] & low[1]
    return len([met for _, met in rays if met & shared == shared]) == 2


def _with_ring(rays, ring, demand):
    """Return the rays that are left if the demand of one ring more is made; demand is its bit."""
    above = [ray for ray in rays if _excess(ray[0], ring) > 0]
    below = [ray for ray in rays if _excess(ray[0], ring) < 0]
    just = [(values, met | demand) for values, met in rays if _excess(values, ring) == 0]
    made = [_between(high, low, ring, demand) for high in above for low in below if _are_neighbours(high, low, rays)]
    return above + just + made


def corners(order, lot):
    """Return the list of all corners of the lot, ascending: tuples (bottom, tuple of a number for each pair)."""
    pairs = _cornered_lot(order, lot)
    rays = _first_rays(len(pairs))
    for at, ring in enumerate(ring_masks(order, pairs)):
        rays = _with_ring(rays, ring, 1 << (len(pairs) + 1 + at))
    return sorted([(values[0], values[1:]) for values, _ in rays if values[0]])


def is_calm(order, lot):
    """Tell whether all corners of the lot are whole."""
    return all([bottom == 1 for bottom, _ in corners(order, lot)])


def breaking_tolls(order, lot):
    """Return tolls on the lot that cost more than their ring cost, made of a corner that is not whole; None if calm."""
    broken = [corner for corner in corners(order, lot) if corner[0] > 1]
    if not broken:
        return None
    bottom, row = broken[0]
    return Counts([(x, y, bottom - number) for (x, y), number in zip(lot_of(order, lot), row)])


def whole_corners(order, lot):
    """Return the list of the lots, ascending, of the pairs with entry 1 in the whole corners."""
    pairs = lot_of(order, lot)
    whole = [row for bottom, row in corners(order, lot) if bottom == 1]
    return sorted([tuple([pair for pair, number in zip(pairs, row) if number]) for row in whole])
