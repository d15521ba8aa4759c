"""linemix/moving.py, with [39]."""

import unittest

from linemix.costs import best_paper, cost
from linemix.counts import Counts
from linemix.errors import BadPair, Unfit
from linemix.leading import leads, tight_for, tight_pairs
from linemix.moving import falls, moved, moved_down
from linemix.numbers import greater_of
from linemix.pairs import all_pairs, open_pairs, sure_pairs
from linemix.papers import Paper
from linemix.shapes import antichain, bent, chain, standard
from linemix.worths import worth
from tests.support import (
    NO_PAIRS, ORDER, CostCase, few_counts, many_lines, small_orders, some_counts, some_orders,
)

BIG = 10 ** 30


def plain_falls(order, tolls):
    """falls by its words."""
    pairs = open_pairs(order)
    return not any(leads(order, pair, other) and tolls[other] > tolls[pair] for pair in pairs for other in pairs)


def falling(order, tolls):
    """The tolls, each raised to the greatest one of the pairs to which the pair leads."""
    return Counts([(x, y, max([tolls[x, y]] + [tolls[other] for other in open_pairs(order)
                                                if leads(order, (x, y), other)])) for x, y in all_pairs(order)])


class FallsTest(CostCase):
    def test_by_its_words(self):
        seen = set()
        for order in small_orders() + some_orders(6, 5, 6):
            for tolls in some_counts(order, 3, 2) + few_counts(order, 1, 2, 1) + [Counts()]:
                wanted = plain_falls(order, tolls)
                seen.add(wanted)
                self.gives(wanted, falls, order, tolls)
                self.gives(True, falls, order, falling(order, tolls))
        self.assertEqual(seen, {True, False})

    def test_by_hand(self):
        # (0, 3) leads to (2, 3) and (0, 1); sure pairs do not matter.
        self.gives(True, falls, ORDER, Counts([(0, 3, 2), (0, 1, 2), (2, 0, 9)]))
        self.gives(False, falls, ORDER, Counts([(0, 3, 2), (0, 1, 3)]))
        self.gives(False, falls, ORDER, Counts([(2, 3, BIG), (0, 3, BIG - 1)]))
        self.gives(True, falls, ORDER, Counts([(2, 0, 9), (3, 1, 2)]))
        self.gives(True, falls, antichain(3), Counts([(0, 1, 5)]))
        self.gives(True, falls, chain(3), Counts([(1, 0, 1)]))
        self.gives(True, falls, chain(1), Counts())

    def test_then_tight_pairs_tell_the_cost(self):
        for order in small_orders()[::3] + some_orders(6, 5, 5):
            for tolls in few_counts(order, 2, 4, 4):
                tolls = falling(order, tolls)
                if len(tolls) > 30:
                    continue
                tight = Counts([(x, y, tolls[x, y]) for x, y in tight_pairs(order)])
                wanted = greater_of((tolls.greatest_count(), 1), cost(order, tight))
                self.assertEqual(cost(order, tolls), wanted)

    def test_no_bound(self):
        self.gives(True, falls, antichain(16), Counts.ones(antichain(16)))
        self.gives(True, falls, many_lines(), Counts.ones(many_lines()))


class MovedTest(CostCase):
    def test_by_hand(self):
        weights = Counts([(0, 1, 5), (0, 3, 1), (2, 0, 2)])
        self.assertEqual(list(self.told(moved, ORDER, weights, (0, 1), (0, 3))), [(0, 3, 6), (2, 0, 2)])
        self.assertEqual(list(self.told(moved, ORDER, weights, [2, 3], [0, 3])), list(weights))
        self.assertEqual(list(self.told(moved, ORDER, weights, (2, 0), (1, 0))), [(0, 1, 5), (0, 3, 1), (1, 0, 2)])

    def test_papers_go_on_to_hold(self):
        for order in small_orders()[::3] + some_orders(4, 5, 6):
            for tolls in few_counts(order, 2, 4, 3):
                paper = best_paper(order, tolls)
                for pair in all_pairs(order):
                    for other in all_pairs(order):
                        if leads(order, other, pair):
                            self.holds_still(order, paper, pair, other)

    def holds_still(self, order, paper, pair, other):
        after = moved(order, paper.counts, pair, other)
        self.assertEqual(after.total_count(), paper.counts.total_count())
        self.assertEqual((after[pair], after[other]), (0, paper.counts[pair] + paper.counts[other]))
        self.assertLessEqual(worth(order, after), worth(order, paper.counts))
        self.assertTrue(Paper(paper.bottom, after).holds_in_order(order))

    def test_refusals(self):
        weights = Counts([(1, 0, 1)])
        self.fails(Unfit(0, 2), moved, ORDER, Counts([(0, 2, 1)]), None, None)
        for wrong in NO_PAIRS:
            self.fails(BadPair(-1), moved, ORDER, weights, wrong, (0, 3))
            self.fails(BadPair(-1), moved, ORDER, weights, (0, 1), wrong)
        for pair in all_pairs(ORDER):
            for other in all_pairs(ORDER):
                if not leads(ORDER, other, pair):
                    self.fails(BadPair(-1), moved, ORDER, weights, pair, other)


class MovedDownTest(CostCase):
    def test_by_tight_for(self):
        for order in small_orders() + some_orders(6, 5, 6) + [bent(), standard(3)]:
            for weights in some_counts(order, 2, 5) + [Counts.ones(order)]:
                after = self.told(moved_down, order, weights)
                wanted = {}
                for x, y, number in weights:
                    goal = (x, y) if (x, y) in sure_pairs(order) else tight_for(order, (x, y))
                    wanted[goal] = wanted.get(goal, 0) + number
                self.assertEqual(list(after), [(x, y, wanted[x, y]) for x, y in sorted(wanted)])
                self.assertLessEqual(worth(order, after), worth(order, weights))

    def test_by_hand(self):
        # (0, 3) leads to (0, 1) and (2, 3), the tight pair (1, 0) to (3, 0); (2, 0) is sure.
        weights = Counts([(0, 1, 5), (0, 3, 1), (2, 3, 2), (2, 0, 4), (3, 0, 7)])
        self.assertEqual(list(moved_down(ORDER, weights)), [(0, 3, 8), (1, 0, 7), (2, 0, 4)])
        self.assertEqual(list(moved_down(ORDER, Counts())), [])
        self.assertEqual(list(moved_down(chain(3), Counts([(2, 0, 3), (1, 0, 2)]))), [(1, 0, 2), (2, 0, 3)])

    def test_papers_go_on_to_hold(self):
        for order in small_orders()[::2] + some_orders(6, 5, 6):
            for tolls in few_counts(order, 2, 5, 4):
                paper = best_paper(order, tolls)
                self.assertTrue(Paper(paper.bottom, moved_down(order, paper.counts)).holds_in_order(order))

    def test_unfit(self):
        self.fails(Unfit(0, 2), moved_down, ORDER, Counts([(0, 2, 1), (1, 0, 1)]))
        self.fails(Unfit(1, 1), falls, ORDER, Counts([(1, 1, 1)]))

    def test_no_bound(self):
        order = antichain(16)
        self.assertEqual(moved_down(order, Counts.ones(order)), Counts.ones(order))


if __name__ == "__main__":
    unittest.main()
