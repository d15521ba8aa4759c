"""The shares of lots and rings, from which costs are bounded below."""

from linemix.counts import check_fit
from linemix.errors import BadPair
from linemix.lots import most_at_once
from linemix.numbers import greater_of, is_at_most, lowest
from linemix.pairs import lot_of
from linemix.rings import least_rings


def _sum_over(tolls, pairs):
    """Return the sum of the tolls over these pairs."""
    return sum([tolls[pair] for pair in pairs])


def share_of(order, tolls, lot):
    """Return the sum of the tolls over the lot, divided by the most of its pairs that one line turns."""
    check_fit(order, tolls)
    pairs = lot_of(order, lot)
    if not pairs:
        raise BadPair(-2)
    return lowest(_sum_over(tolls, pairs), most_at_once(order, pairs))


def dearest_ring(order, tolls):
    """Return the greatest share of a least ring of the tolled pairs, and the first ring, by size, that has it."""
    check_fit(order, tolls)
    best = ((0, 1), ())
    for ring in least_rings(order, [(x, y) for x, y, _ in tolls.rows]):
        # One line turns all but one pair of a least ring.
        share = lowest(_sum_over(tolls, ring), len(ring) - 1)
        if not is_at_most(share, best[0]):
            best = (share, ring)
    return best


def ring_cost(order, tolls):
    """Return the greatest among all tolls and the shares of all least rings of the tolled pairs."""
    return greater_of(dearest_ring(order, tolls)[0], (tolls.greatest_count(), 1))
