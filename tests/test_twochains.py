"""linemix/twochains.py, with [96]."""

import unittest
from itertools import combinations

from linemix.chains import width
from linemix.costs import cost
from linemix.counts import Counts
from linemix.errors import TooMany, Unfit
from linemix.numbers import is_at_most
from linemix.orders import Order
from linemix.pairs import all_pairs, open_pairs, sure_pairs
from linemix.rings import ring_around
from linemix.shapes import antichain, bent, chain, standard
from linemix.ties import tied
from linemix.twochains import dearest_couple, richest_quiet
from linemix.wholes import whole_cost
from linemix.widths import load_bound
from linemix.worths import worth
from tests.plain_support import plain_against, plain_quiets
from tests.support import (
    ORDER, CostCase, few_counts, five_thousand_lower_sets, many_lines, small_orders, some_counts, some_orders,
)

BIG = 10 ** 30
ORDERS = small_orders()[::3] + some_orders(10, 5, 6) + [standard(3), bent(), antichain(5)]


def two_chain_orders():
    """Orders that two chains cover, with few and with many steps across."""
    found = [order for order in small_orders() if width(order) <= 2]
    thin = [Order(6, [(0, 1), (1, 2), (3, 4), (4, 5), *steps]) for steps in ([], [(0, 5)], [(3, 1), (0, 5)], [(1, 4)])]
    return found[::3] + thin + [chain(4) + chain(3), chain(3) * chain(2), chain(1)]


class DearestCoupleTest(CostCase):
    def test_by_all_couples(self):
        for order in ORDERS:
            for tolls in some_counts(order, 4, 4) + few_counts(order, 2, 6, 1):
                rows = [((x, y), number) for x, y, number in tolls]
                told = [(number, (pair,)) for pair, number in rows]
                told += [(number + other, (pair, rival)) for (pair, number), (rival, other) in combinations(rows, 2)
                         if plain_against(order, pair, rival)]
                greatest = max([number for number, _ in told], default=0)
                lots = sorted(lot for number, lot in told if number == greatest)
                self.gives((greatest, lots[0] if lots else ()), dearest_couple, order, tolls)

    def test_by_hand(self):
        order = antichain(3)
        self.gives((0, ()), dearest_couple, order, Counts())
        self.gives((2, ((0, 1), (1, 0))), dearest_couple, order, Counts.ones(order))
        # The least lot, compared as tuples: one pair alone comes ahead of a couple that begins with it.
        self.gives((3, ((0, 1),)), dearest_couple, order, Counts([(0, 1, 3), (0, 2, 3), (1, 2, 1), (2, 1, 2)]))
        self.gives((3, ((0, 1), (1, 0))), dearest_couple, order, Counts([(0, 1, 1), (1, 0, 2), (1, 2, 3)]))
        self.gives((5, ((2, 0),)), dearest_couple, chain(3), Counts([(1, 0, 4), (2, 0, 5)]))
        self.gives((5, ((0, 1),)), dearest_couple, Order(3, [(0, 2)]), Counts([(0, 1, 5), (2, 0, 5)]))
        self.gives((10 ** 28 + 1, ((0, 1), (1, 0))), dearest_couple, antichain(2),
                   Counts([(0, 1, 10 ** 28), (1, 0, 1)]))
        self.gives((0, ()), dearest_couple, chain(1), Counts())

    def test_no_bound(self):
        order = antichain(16)
        self.gives((2 * BIG, ((0, 1), (1, 0))), dearest_couple, order, Counts.at(all_pairs(order), number=BIG))
        for order in (many_lines(), five_thousand_lower_sets(), standard(8)):
            self.assertEqual(dearest_couple(order, Counts.ones(order))[0], 2)

    def test_refusals(self):
        for call in (dearest_couple, richest_quiet):
            self.fails(Unfit(0, 2), call, ORDER, Counts([(0, 2, 1), (1, 2, 1), (3, 0, 1)]))
            self.fails(Unfit(0, 0), call, chain(1), Counts([(0, 0, 1)]))
            self.fails(Unfit(0, 16), call, antichain(16), Counts([(0, 16, 1)]) + Counts.ones(antichain(16)))


class RichestQuietTest(CostCase):
    def test_by_all_quiet_lots(self):
        for order in ORDERS:
            for weights in few_counts(order, 4, 6, 5) + few_counts(order, 1, 9, 2):
                lots = plain_quiets(order, [(x, y) for x, y, _ in weights])
                number, lot = self.told(richest_quiet, order, weights)
                self.assertEqual(number, max(sum(weights[pair] for pair in other) for other in lots))
                self.assertIn(lot, lots)
                self.assertIs(type(lot), tuple)
                self.assertEqual(number, sum(weights[pair] for pair in lot))
                # What one line turns is quiet.
                self.assertLessEqual(worth(order, weights), number)

    def test_by_hand(self):
        self.gives((0, ()), richest_quiet, antichain(3), Counts())
        ring = ring_around(antichain(3), (0, 1, 2))
        self.gives((3, tuple(sorted(ring))), richest_quiet, antichain(3), Counts.at(ring))
        self.gives((BIG, ((0, 1),)), richest_quiet, antichain(2), Counts([(0, 1, BIG), (1, 0, 5)]))
        self.gives((12, ((1, 0), (2, 0), (2, 1))), richest_quiet, chain(3), Counts([(1, 0, 3), (2, 0, 4), (2, 1, 5)]))

    def test_twelve_and_thirteen_weights(self):
        for order in (antichain(5), chain(16), Order(9, [(0, 1), (2, 3)]), many_lines()):
            pairs = (sure_pairs(order)[:6] + open_pairs(order) + sure_pairs(order)[6:])[:13]
            self.told(richest_quiet, order, Counts.at(pairs[:12]))
            self.fails(TooMany(12), richest_quiet, order, Counts.at(pairs))
        self.fails(Unfit(0, 0), richest_quiet, antichain(5), Counts.ones(antichain(5)) + Counts([(0, 0, 1)]))


class TwoChainsTest(CostCase):
    def two_chains(self, order, tolls):
        number, _ = dearest_couple(order, tolls)
        self.assertEqual(cost(order, tolls), (number, 1))
        self.assertLessEqual(number, load_bound(order, tolls))
        self.assertLessEqual(number, load_bound(order, tolls, upper=True))
        if len(tolls) <= 12:
            self.assertEqual(worth(order, tolls), richest_quiet(order, tolls)[0])
            if tolls.total_count() <= 24:
                self.assertEqual(whole_cost(order, tolls), number)

    def test_width_two(self):
        # [96]
        for order in two_chain_orders():
            self.assertLessEqual(width(order), 2)
            for tolls in few_counts(order, 3, 8, 3) + few_counts(order, 2, 12, 2) + few_counts(order, 1, 30, 10 ** 28):
                self.two_chains(order, tolls)

    def test_behind_ties(self):
        for order in two_chain_orders()[-7:]:
            for u, v in open_pairs(order)[::3]:
                made = tied(order, (u, v))
                self.assertLessEqual(width(made), 2)
                for tolls in few_counts(made, 2, 8, 3):
                    self.two_chains(made, tolls)

    def test_width_three_or_more(self):
        for order in ORDERS:
            for chosen in combinations(range(order.size), 3):
                if all(order.are_open(x, y) for x, y in combinations(chosen, 2)):
                    ones = Counts.at(ring_around(order, chosen))
                    self.assertEqual(cost(order, ones), (3, 2))
                    self.assertEqual(dearest_couple(order, ones)[0], 1)
                    self.assertEqual(worth(order, ones), 2)
                    self.assertEqual(richest_quiet(order, ones)[0], 3)

    def test_at_most_the_cost(self):
        for order in ORDERS:
            for tolls in few_counts(order, 3, 8, 4):
                number = dearest_couple(order, tolls)[0]
                self.assertGreaterEqual(number, tolls.greatest_count())
                self.assertTrue(is_at_most((number, 1), cost(order, tolls)))


if __name__ == "__main__":
    unittest.main()
