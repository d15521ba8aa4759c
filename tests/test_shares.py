"""linemix/shares.py, with [91]."""

import unittest
from fractions import Fraction

from linemix.costs import cost
from linemix.counts import Counts
from linemix.errors import BadPair, TooMany, Unfit
from linemix.numbers import is_at_most
from linemix.pairs import all_pairs, open_pairs, sure_pairs
from linemix.rings import is_ring, ring_around
from linemix.shapes import antichain, bent, chain, crown, standard
from linemix.shares import dearest_ring, ring_cost, share_of
from tests.plain_support import told
from tests.support import (
    NO_LISTS, NO_PAIRS, ORDER, CostCase, few_counts, many_lines, plain_least_rings, small_orders, some_counts, some_lots,
    some_orders, turned_sets,
)

BIG = 10 ** 30
ORDERS = small_orders()[::3] + some_orders(8, 5, 6) + [standard(3), bent()]
RING = ring_around(antichain(3), (0, 1, 2))


def summed(tolls, lot):
    return sum(tolls[pair] for pair in lot)


class ShareTest(CostCase):
    def test_by_its_words(self):
        for order in ORDERS:
            sets = turned_sets(order)
            for lot in some_lots(order, 4, 12):
                for tolls in some_counts(order, 2, 5):
                    if lot:
                        most = max(len(turned & set(lot)) for turned in sets)
                        share = self.gives(told(Fraction(summed(tolls, lot), most)), share_of, order, tolls, lot[::-1])
                        # The cost is at least the share of every lot.
                        if len(tolls) <= 30:
                            self.assertTrue(is_at_most(share, cost(order, tolls)))

    def test_by_hand(self):
        ones = Counts.at(RING)
        self.gives((3, 2), share_of, antichain(3), ones, RING)
        self.gives((1, 2), share_of, antichain(3), ones, [(0, 2), [0, 1]])
        self.gives((0, 1), share_of, antichain(3), Counts(), RING)
        self.gives((BIG, 1), share_of, chain(2), Counts([(1, 0, BIG)]), [[1, 0]])
        self.gives((10 ** 28 + 1, 1), share_of, antichain(2), Counts([(1, 0, 10 ** 28), (0, 1, 1)]), [(0, 1), (1, 0)])
        # Sure pairs count as pairs that one line turns.
        self.gives((7, 3), share_of, chain(3), Counts([(2, 0, 4), (1, 0, 3)]), sure_pairs(chain(3)))
        self.gives((12, 11), share_of, antichain(12), Counts.ones(antichain(12)),
                   [(x, (x + 1) % 12) for x in range(12)])
        self.assertEqual(share_of(many_lines(), Counts(), all_pairs(many_lines())[:12]), (0, 1))

    def test_refusals_in_their_order(self):
        fit, unfit = Counts([(1, 0, 1)]), Counts([(0, 2, 1)])
        self.fails(Unfit(0, 2), share_of, ORDER, unfit, None)
        for value in NO_LISTS:
            self.fails(BadPair(-2), share_of, ORDER, fit, value)
        for value in NO_PAIRS:
            self.fails(BadPair(1), share_of, ORDER, fit, [(1, 0), value])
        self.fails(BadPair(1), share_of, ORDER, fit, [(1, 0), [1, 0]])
        self.fails(BadPair(-2), share_of, ORDER, fit, ())
        self.fails(BadPair(-2), share_of, ORDER, fit, [])
        pairs = all_pairs(antichain(5))
        self.told(share_of, antichain(5), fit, pairs[:12])
        self.fails(TooMany(12), share_of, antichain(5), fit, pairs[:13])
        self.fails(BadPair(13), share_of, antichain(5), fit, pairs[:13] + pairs[:1])
        self.fails(TooMany(12), share_of, chain(16), Counts(), sure_pairs(chain(16))[:13])


class DearestRingTest(CostCase):
    def rings(self, order, tolls, sets):
        tolled = [(x, y) for x, y, _ in tolls]
        found = [(Fraction(summed(tolls, ring), len(ring) - 1), -len(ring), ring)
                 for ring in plain_least_rings(tolled, sets)]
        share, lot = Fraction(0), ()
        # The first one of those with the greatest share, by size, then ascending.
        for value, less, ring in sorted(found, key=lambda told: (-told[1], told[2])):
            if value > share:
                share, lot = value, ring
        self.gives((told(share), lot), dearest_ring, order, tolls)
        wanted = max(share, max([number for _, _, number in tolls], default=0))
        self.gives(told(wanted), ring_cost, order, tolls)
        self.assertTrue(is_at_most(told(wanted), cost(order, tolls)))

    def test_by_all_lots(self):
        for order in ORDERS:
            sets = turned_sets(order)
            for tolls in few_counts(order, 4, 7, 4) + few_counts(order, 2, 8, 1):
                self.rings(order, tolls, sets)

    def test_each_least_ring_has_its_share(self):
        for order in (antichain(4), antichain(5), standard(3), crown(4, reach=1)):
            for tolls in few_counts(order, 6, 12, 3):
                share, lot = self.told(dearest_ring, order, tolls)
                if lot:
                    self.assertEqual(share_of(order, tolls, lot), share)

    def test_the_first_of_several(self):
        # Couples and a ring of three with one share: the shortest, and the least of these, is told.
        order = antichain(4)
        ring = Counts.at(ring_around(order, (0, 1, 2)), number=2)
        self.gives(((3, 1), ((0, 2), (1, 0), (2, 1))), dearest_ring, order, ring)
        both = ring + Counts([(2, 3, 1), (3, 2, 2), (0, 3, 2), (3, 0, 1)])
        self.gives(((3, 1), ((0, 3), (3, 0))), dearest_ring, order, both)

    def test_edges(self):
        for order in (chain(1), chain(5), antichain(16), many_lines()):
            self.gives(((0, 1), ()), dearest_ring, order, Counts())
            self.gives((0, 1), ring_cost, order, Counts())
        tolls = Counts([(2, 0, 5), (1, 0, BIG)])
        self.gives(((0, 1), ()), dearest_ring, chain(3), tolls)
        self.gives((BIG, 1), ring_cost, chain(3), tolls)
        big = Counts([(1, 0, 10 ** 28), (2, 1, 1), (0, 2, 10 ** 12), (0, 1, 2)])
        self.gives(((10 ** 28 + 2, 1), ((0, 1), (1, 0))), dearest_ring, antichain(3), big)
        self.gives((10 ** 28 + 2, 1), ring_cost, antichain(3), big)

    def test_rings_of_many_places(self):
        order = antichain(12)
        ring = ring_around(order, tuple(range(12)))
        share, lot = self.told(dearest_ring, order, Counts.at(ring, number=11))
        self.assertEqual((share, lot), ((12, 1), tuple(sorted(ring))))
        self.assertTrue(is_ring(order, lot, ring))

    def test_refusals_in_their_order(self):
        for call in (dearest_ring, ring_cost):
            self.fails(Unfit(0, 2), call, ORDER, Counts([(0, 2, 1), (1, 2, 1), (3, 0, 1)]))
            self.fails(Unfit(1, 1), call, antichain(5), Counts([(1, 1, 1)]) + Counts.at(all_pairs(antichain(5))))
            for order in (antichain(5), chain(16), ORDER + chain(2)):
                pairs = sure_pairs(order)[:6] + open_pairs(order)
                pairs = (pairs + sure_pairs(order)[6:])[:13]
                self.told(call, order, Counts.at(pairs[:12]))
                self.fails(TooMany(12), call, order, Counts.at(pairs))


if __name__ == "__main__":
    unittest.main()
