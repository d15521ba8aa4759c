"""linemix/worths.py, with what is said of the worth in [34], [36] and [44]."""

import unittest

from linemix.counts import Counts
from linemix.errors import TooMany, Unfit
from linemix.lines import is_line, lines_of
from linemix.orders import Order
from linemix.pairs import sure_pairs
from linemix.shapes import antichain, bent, chain, crown, stacked, standard
from linemix.worths import richest, worth
from tests.support import (
    ORDER, Case, beside_all, earned_by, five_thousand_lower_sets, many_lines, small_orders, some_counts, some_orders,
)

BIG = 10 ** 30


class WorthTest(Case):
    def rich(self, order, counts, most=None):
        number = self.told(worth, order, counts)
        self.assertIs(type(number), int)
        line = self.told(richest, order, counts)
        self.assertIs(type(line), tuple)
        self.assertTrue(is_line(order, line))
        self.assertEqual(earned_by(line, counts), number)
        if most is not None:
            self.assertEqual(number, most)

    def test_by_all_lines(self):
        for order in small_orders() + some_orders(12, 5, 6) + [bent(), standard(3)]:
            for counts in some_counts(order, 3, 4) + some_counts(order, 1, BIG):
                self.rich(order, counts, max(earned_by(line, counts) for line in lines_of(order)))

    def test_one_pair(self):
        for order in small_orders()[::5] + [chain(16)]:
            for x, y, _ in Counts.ones(order):
                self.rich(order, Counts([(x, y, BIG)]), BIG)
        for x, y in ((1, 0), (0, 15), (12, 3), (15, 13)):
            self.rich(many_lines(), Counts([(x, y, BIG)]), BIG)

    def test_no_weights(self):
        for order in (chain(1), chain(16), antichain(12), many_lines(), ORDER):
            self.rich(order, Counts(), 0)
            self.rich(order, Counts([(0, 0, 0), (40, 2, 0)]), 0)

    def test_all_pairs(self):
        # Each line turns every sure pair and one of the two pairs of each open couple.
        for order in small_orders() + [chain(16), antichain(12), many_lines(), standard(8), crown(6, reach=2)]:
            many = len(Counts.ones(order))
            sure = len(sure_pairs(order))
            self.rich(order, Counts.ones(order), sure + (many - sure) // 2)

    def test_many_lines(self):
        order = many_lines()
        self.rich(order, Counts([(0, 15, BIG), (15, 0, 1), (2, 14, 5), (13, 2, 1)]), BIG + 5)
        self.rich(order, Counts([(0, 15, 3), (13, 1, 2)]), 3)
        self.rich(order, Counts([(10, 3, 4), (2, 12, 4), (0, 9, 1)]), 5)
        for counts in some_counts(order, 3, BIG) + some_counts(order, 3, 3):
            self.rich(order, counts)
        self.rich(beside_all([chain(4)] * 4), Counts.ones(beside_all([chain(4)] * 4)), 16 * 15 // 2)
        self.rich(stacked([8, 8]), Counts([(x, y, 1) for x in range(8) for y in range(8) if x > y]), 28)
        self.rich(antichain(12), Counts([(x, (x + 1) % 12, BIG) for x in range(12)]), 11 * BIG)

    def test_pairs_that_are_pairwise_against(self):
        for many in range(2, 8):
            self.rich(standard(many), Counts([(i, many + i, i + 1) for i in range(many)]), many)

    def test_five_thousand_lower_sets(self):
        order = five_thousand_lower_sets()
        for counts in [Counts(), Counts.ones(order)] + some_counts(order, 2, BIG):
            self.rich(order, counts)

    def test_more_lower_sets(self):
        for order in (chain(1) >> five_thousand_lower_sets(), five_thousand_lower_sets() >> chain(1),
                      antichain(13), antichain(16)):
            for counts in (Counts(), Counts([(0, 1, 0)]), Counts([(order.size - 1, 0, 3)])):
                self.fails(TooMany(5000), worth, order, counts)
                self.fails(TooMany(5000), richest, order, counts)

    def test_refusals_in_their_order(self):
        for call in (worth, richest):
            self.fails(Unfit(0, 1), call, chain(2), Counts([(1, 0, 2), (0, 1, 3)]))
            self.fails(Unfit(2, 2), call, antichain(3), Counts([(2, 2, 1), (4, 0, 1), (2, 1, 5)]))
            self.fails(Unfit(0, 4), call, ORDER, Counts([(0, 4, 1)]))
            # Weights that do not fit are refused ahead of the bound.
            self.fails(Unfit(16, 0), call, antichain(16), Counts([(16, 0, 1), (1, 0, 1)]))
            self.gives(call(Order(2), Counts()), call, Order(2), Counts([(1, 1, 0)]))

    def test_sure_pairs_are_always_earned(self):
        self.gives(6, worth, chain(3), Counts([(1, 0, 1), (2, 0, 2), (2, 1, 3)]))
        self.gives((0, 1, 2), richest, chain(3), Counts([(1, 0, 1), (2, 0, 2), (2, 1, 3)]))


if __name__ == "__main__":
    unittest.main()
