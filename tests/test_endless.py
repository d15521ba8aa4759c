"""linemix/endless.py, with [41]."""

import unittest

from linemix.costs import cost
from linemix.counts import Counts, kept_on
from linemix.endless import beyond, endless, tolls_against
from linemix.errors import BadPair, TooMany, Unfit
from linemix.numbers import add_up, greater_of, is_at_most
from linemix.pairs import all_pairs, open_pairs, pairs_against, sure_pairs
from linemix.shapes import antichain, bent, chain, standard
from linemix.ties import tied
from tests.support import (
    NO_PAIRS, ORDER, CostCase, few_counts, five_thousand_lower_sets, flipped_plainly, small_orders, some_orders,
)

CALLS = (tolls_against, beyond, endless)


class EndlessTest(CostCase):
    def test_example(self):
        tolls = Counts([(1, 0, 1), (1, 2, 2), (2, 0, 1)])
        self.gives(((3, 1), (1, 1)), endless, antichain(3), tolls, (0, 1))
        self.gives((3, 1), beyond, antichain(3), tolls, [0, 1])
        self.assertEqual(list(self.told(tolls_against, antichain(3), tolls, (0, 1))), [(1, 0, 1)])

    def test_by_their_words(self):
        for order in small_orders()[::2] + some_orders(5, 5, 6) + [bent(), standard(3)]:
            for tolls in few_counts(order, 1, 4, 4) + few_counts(order, 1, 9, 3):
                for pair in open_pairs(order)[::2]:
                    self.at_pair(order, tolls, pair)

    def at_pair(self, order, tolls, pair):
        rivals = pairs_against(order, pair)
        against = Counts([(x, y, tolls[x, y]) for x, y in rivals])
        rest = Counts([(x, y, toll) for x, y, toll in tolls if (x, y) != pair and (x, y) not in rivals])
        beside = tied(order, (pair[1], pair[0]))
        self.assertEqual(kept_on(beside, rest), rest)
        self.assertEqual(self.told(tolls_against, order, tolls, pair), against)
        high = self.told(beyond, order, tolls, pair)
        self.assertEqual(high, cost(beside, rest))
        self.assertEqual(self.told(endless, order, tolls, pair), (high, cost(order, against)))
        self.ends(order, tolls, pair, high, cost(order, against))

    def ends(self, order, tolls, pair, high, rivals):
        for toll in (0, tolls[pair], 1, 3, high[0] // high[1] + 1, 10 ** 28):
            now = tolls.with_count(pair[0], pair[1], toll)
            self.assertEqual(endless(order, now, pair), (high, rivals))
            value = cost(order, now)
            self.assertTrue(is_at_most(add_up((toll, 1), rivals), value))
            self.assertTrue(is_at_most(value, add_up(greater_of((toll, 1), high), rivals)))
            if is_at_most(high, (toll, 1)):
                self.assertEqual(value, add_up((toll, 1), rivals))

    def test_upside_down(self):
        # [37]
        for order in small_orders()[::5] + some_orders(3, 5, 6):
            for tolls in few_counts(order, 2, 5, 4):
                for x, y in open_pairs(order)[::3]:
                    self.assertEqual(beyond(~order, flipped_plainly(tolls), (y, x)), beyond(order, tolls, (x, y)))
                    self.assertEqual(endless(~order, flipped_plainly(tolls), (y, x)), endless(order, tolls, (x, y)))

    def test_refusals(self):
        tolls = Counts([(1, 0, 1)])
        for call in CALLS:
            self.fails(Unfit(0, 2), call, ORDER, Counts([(0, 2, 1)]), None)
            for wrong in NO_PAIRS + sure_pairs(ORDER):
                self.fails(BadPair(-1), call, ORDER, tolls, wrong)
            self.fails(BadPair(-1), call, chain(2), tolls, (1, 0))

    def test_bounds(self):
        order = antichain(7)
        pairs = all_pairs(order)
        many = Counts.at(pairs[:31])
        # (0, 1) and (1, 0) are tolled, so 29 are left beyond; and only (1, 0) is against (0, 1).
        self.assertEqual(endless(order, many, (0, 1))[1], (1, 1))
        self.fails(TooMany(30), beyond, order, many, (6, 5))
        self.fails(TooMany(30), endless, order, many, (6, 5))
        self.assertEqual(len(tolls_against(order, many, (6, 5))), 0)
        self.fails(BadPair(-1), beyond, order, many, (6, 6))
        for call in (beyond, endless):
            self.fails(TooMany(5000), call, antichain(14), Counts(), (0, 1))
        self.assertEqual(list(tolls_against(antichain(16), Counts.ones(antichain(16)), (0, 1))), [(1, 0, 1)])
        # With a step more the lower sets are few enough, in the order they are not.
        wide = five_thousand_lower_sets() >> chain(1)
        self.fails(TooMany(5000), endless, wide, Counts(), (0, 1))
        self.assertEqual(beyond(wide, Counts(), (0, 1)), (0, 1))

    def test_many_against(self):
        # The pairs against one pair may be too many for a cost of their own.
        order = chain(6) + chain(6)
        tolls = Counts.at(open_pairs(order))
        rivals = tolls_against(order, tolls, (0, 11))
        self.assertEqual(len(rivals), 36)
        self.fails(TooMany(30), endless, order, tolls, (0, 11))
        self.assertEqual(beyond(order, Counts(), (0, 11)), (0, 1))


if __name__ == "__main__":
    unittest.main()
