"""linemix/tworows.py, with [55]."""

import unittest

from linemix.costs import cost, full_cost, tight_ones
from linemix.counts import Counts
from linemix.errors import BadNumber, TooMany, Unfit
from linemix.lots import greatest_lots
from linemix.numbers import add_up, is_at_most
from linemix.pairs import all_pairs
from linemix.rings import is_ring, is_turnable, least_rings, ring_in
from linemix.shapes import antichain, bent, chain, standard
from linemix.tworows import two_row_counts, two_rows
from linemix.wholes import dimension, whole_cost
from linemix.worths import worth
from tests.support import ORDER, CostCase, few_counts, small_orders, some_counts, some_lots, some_orders

ORDERS = small_orders()[::2] + some_orders(8, 5, 6) + [bent(), antichain(5)]


class TwoRowsTest(CostCase):
    def test_steps(self):
        for order in small_orders() + [bent(), chain(8), antichain(8), standard(4)]:
            size = order.size
            made = self.told(two_rows, order)
            self.assertEqual(made.size, 2 * size)
            wanted = [(x, size + y) for x in range(size) for y in range(size) if order.is_under(x, y)]
            self.assertEqual(list(made), sorted(wanted))

    def test_by_hand(self):
        self.assertEqual(two_rows(chain(1)), chain(2))
        self.assertEqual(list(two_rows(chain(2))), [(0, 2), (0, 3), (1, 3)])

    def test_size(self):
        self.assertEqual(two_rows(antichain(8)).size, 16)
        for size in (9, 12, 16):
            self.fails(BadNumber("size"), two_rows, antichain(size))
            self.fails(BadNumber("size"), two_rows, chain(size))

    def test_counts(self):
        for order in ORDERS + [chain(16), antichain(16)]:
            for counts in some_counts(order, 2, 9) + [Counts()]:
                made = self.told(two_row_counts, order, counts)
                self.assertEqual(list(made), [(x, order.size + y, number) for x, y, number in counts])
        self.fails(Unfit(0, 2), two_row_counts, ORDER, Counts([(0, 2, 1), (1, 1, 1)]))
        self.fails(Unfit(1, 1), two_row_counts, antichain(16), Counts([(1, 1, 1)]))

    def test_costs_and_worths(self):
        for order in ORDERS:
            made = two_rows(order)
            for tolls in few_counts(order, 2, 5, 4) + few_counts(order, 1, 10, 2):
                moved = two_row_counts(order, tolls)
                self.assertEqual(cost(made, moved), cost(order, tolls))
                self.assertEqual(worth(made, moved), worth(order, tolls))
                if len(tolls) <= 12 and tolls.total_count() <= 24:
                    self.assertEqual(whole_cost(made, moved), whole_cost(order, tolls))

    def test_seven_and_eight_places(self):
        for order in some_orders(4, 7, 8) + [standard(4), antichain(8)]:
            for tolls in few_counts(order, 2, 9, 4):
                made = two_rows(order)
                try:
                    value = cost(made, two_row_counts(order, tolls))
                except TooMany as many:
                    self.assertEqual(many.number, 5000)
                    continue
                self.assertEqual(value, cost(order, tolls))

    def test_lots_and_rings(self):
        for order in small_orders()[::3] + some_orders(6, 5, 7):
            made, size = two_rows(order), order.size
            for lot in some_lots(order, 4, 8):
                moved = [(x, size + y) for x, y in lot]
                self.assertEqual(is_turnable(made, moved), is_turnable(order, lot))
                self.assertEqual(least_rings(made, moved), [tuple((x, size + y) for x, y in ring)
                                                            for ring in least_rings(order, lot)])
                self.assertEqual(greatest_lots(made, moved), [tuple((x, size + y) for x, y in part)
                                                              for part in greatest_lots(order, lot)])
                ring = ring_in(order, lot)
                if ring:
                    self.assertTrue(is_ring(made, moved, [(x, size + y) for x, y in ring]))

    def test_full_cost_and_dimension(self):
        for order in small_orders() + some_orders(5, 5, 6):
            made = two_rows(order)
            if len(tight_ones(made)) <= 30 and len(tight_ones(order)) <= 30:
                low = full_cost(order)
                self.assertTrue(is_at_most(low, full_cost(made)))
                self.assertTrue(is_at_most(full_cost(made), add_up(low, (1, 1))))
            if len(tight_ones(made)) <= 12 and len(tight_ones(order)) <= 12:
                self.assertIn(dimension(made) - dimension(order), (0, 1))

    def test_all_pairs_of_a_small_one(self):
        order = antichain(4)
        tolls = Counts([(x, y, x + 2 * y + 1) for x, y in all_pairs(order)])
        self.shown(two_rows(order), two_row_counts(order, tolls), cost(order, tolls))


if __name__ == "__main__":
    unittest.main()
