"""linemix/walking.py, with [89]."""

import unittest

from linemix.costs import cost, full_cost
from linemix.counts import Counts
from linemix.errors import TooMany, Unfit
from linemix.numbers import add_up, is_at_most, scaled
from linemix.orders import Order
from linemix.pairs import all_pairs
from linemix.shapes import antichain, bent, chain, standard
from linemix.ties import single_ties, tied
from linemix.walking import place_walk, tie_walk
from tests.support import ORDER, CostCase, few_counts, small_orders, some_orders

ORDERS = small_orders()[::2] + some_orders(8, 5, 6) + [bent(), standard(3)]


class TieWalkTest(CostCase):
    def test_ties_and_costs(self):
        for order in ORDERS:
            for tolls in few_counts(order, 2, 4, 4) + [Counts()]:
                walk = self.told(tie_walk, order, tolls)
                self.assertIs(type(walk), list)
                self.assertEqual(len(walk), len(order.steps_told()))
                reached = Order.empty(order.size)
                last = cost(reached, tolls)
                for u, v, value in walk:
                    self.fraction(value)
                    self.assertIn((u, v), single_ties(reached))
                    reached = tied(reached, (u, v))
                    self.assertEqual(value, cost(reached, tolls))
                    self.assertTrue(is_at_most(last, value) and is_at_most(value, scaled(last, 2)))
                    last = value
                self.assertEqual(reached, order)
                self.assertEqual(last, cost(order, tolls))

    def test_no_steps(self):
        for order in (chain(1), antichain(5), antichain(16)):
            for tolls in (Counts(), Counts.at(all_pairs(order))):
                self.gives([], tie_walk, order, tolls)
        self.assertGreater(len(all_pairs(antichain(16))), 30)

    def test_by_hand(self):
        self.gives([(0, 1, (3, 1))], tie_walk, chain(2), Counts([(1, 0, 3)]))
        costs = [value for _, _, value in tie_walk(ORDER, Counts([(0, 1, 1), (1, 0, 2), (2, 3, 5), (3, 2, 1)]))]
        self.assertEqual(costs, [(6, 1)] * 3)

    def test_twelve_places(self):
        order = chain(6) + chain(6)
        tolls = few_counts(order, 1, 30, 9)[0]
        walk = tie_walk(order, tolls)
        self.assertEqual(len(walk), 30)
        self.assertEqual(walk[-1][2], cost(order, tolls))

    def test_refusals(self):
        self.fails(Unfit(0, 2), tie_walk, ORDER, Counts([(0, 2, 1)]))
        self.fails(Unfit(2, 2), tie_walk, antichain(16), Counts([(2, 2, 1)]))
        order = Order(7, [(0, 1)])
        self.fails(TooMany(30), tie_walk, order, Counts.at(all_pairs(order)[:31]))
        self.assertEqual(len(tie_walk(order, Counts.at(all_pairs(order)[:30]))), 1)
        # All orders on the way but the last ones have too many lower sets.
        for order in (chain(13), chain(16), Order(13, [(3, 4)])):
            self.fails(TooMany(5000), tie_walk, order, Counts())
        self.fails(TooMany(30), tie_walk, chain(16), Counts.at(all_pairs(chain(16))[:31]))


class PlaceWalkTest(CostCase):
    def test_example(self):
        self.assertEqual(place_walk(standard(3)),
                         [(0, (0, 1)), (1, (2, 1)), (2, (2, 1)), (3, (2, 1)), (4, (2, 1)), (5, (3, 1))])

    def test_full_costs(self):
        for order in ORDERS + [standard(4), chain(16), standard(6)]:
            walk = self.told(place_walk, order)
            self.assertIs(type(walk), list)
            self.assertEqual([x for x, _ in walk], list(range(order.size)))
            for x, value in walk:
                self.assertEqual(value, full_cost(order.on(tuple(range(x + 1)))))
            values = [value for _, value in walk]
            for at, (one, other) in enumerate(zip(values, values[1:])):
                self.assertTrue(is_at_most(one, other))
                if at + 1 >= 2:
                    self.assertTrue(is_at_most(other, add_up(one, (1, 1))))
            self.assertEqual(values[-1], full_cost(order))

    def test_bounds(self):
        self.assertEqual(place_walk(antichain(6))[-1], (5, (2, 1)))
        self.fails(TooMany(30), place_walk, antichain(7))
        # The first seven places of standard(7) are open to one another.
        self.gives((7, 1), full_cost, standard(7))
        self.fails(TooMany(30), place_walk, standard(7))
        self.gives([(0, (0, 1))], place_walk, chain(1))
        self.assertEqual(place_walk(chain(16)), [(0, (0, 1))] + [(x, (1, 1)) for x in range(1, 16)])


if __name__ == "__main__":
    unittest.main()
