"""linemix/papers.py, with [33]."""

import unittest
from itertools import product

from linemix.counts import Counts
from linemix.errors import BadNumber, TooMany, Unfit
from linemix.lines import lines_of
from linemix.numbers import lowest
from linemix.orders import Order
from linemix.papers import Paper
from linemix.shapes import antichain, chain
from linemix.worths import worth
from tests.support import (
    ORDER, Case, earned_by, five_thousand_lower_sets, many_lines, small_orders, some_counts, some_orders,
)

BIG = 10 ** 30
RING = Counts([(1, 0, 1), (2, 1, 1), (0, 2, 1)])


class MadeTest(Case):
    def test_attributes(self):
        for bottom in (1, 7, BIG):
            paper = Paper(bottom, RING)
            self.assertEqual(paper.bottom, bottom)
            self.assertIs(paper.counts, RING)

    def test_iteration(self):
        self.assertEqual(list(Paper(2, RING)), [(0, 2, 1), (1, 0, 1), (2, 1, 1)])
        self.assertEqual(list(Paper(2, Counts())), [])
        paper = Paper(2, RING)
        self.assertEqual([(a, b) for a in paper for b in paper], list(product(RING, repeat=2)))

    def test_refusals(self):
        for wrong in (0, -1, True, False, None, 1.0, "1", (1,), [1]):
            self.fails(BadNumber("bottom"), Paper, wrong, RING)

    def test_equal(self):
        for factor in (1, 2, BIG):
            self.assertTrue(Paper(3, RING) == Paper(3 * factor, RING * factor))
            self.assertFalse(Paper(3, RING) != Paper(3 * factor, RING * factor))
        self.assertTrue(Paper(1, Counts()) == Paper(BIG, Counts([(4, 4, 0)])))
        self.assertFalse(Paper(3, RING) == Paper(2, RING))
        self.assertFalse(Paper(3, RING) == Paper(3, RING * 2))
        self.assertFalse(Paper(3, RING) == Paper(3, RING.with_count(1, 0, 0)))
        for one, other in product(range(1, 4), repeat=2):
            for q, r in product(some_counts(chain(2), 3, 3) + some_counts(ORDER, 3, 2), repeat=2):
                same = all(lowest(q[x, y], one) == lowest(r[x, y], other) for x, y in product(range(4), repeat=2))
                self.assertIs(Paper(one, q) == Paper(other, r), same)

    def test_unlike_what_is_no_paper(self):
        for value in (None, 0, [], list(RING), RING, (3, RING), {}, Paper, chain(3)):
            self.assertIs(Paper(1, RING) == value, False)
            self.assertIs(value == Paper(1, RING), False)
            self.assertIs(Paper(1, RING) != value, True)


class ValueTest(Case):
    def test_value_at(self):
        self.gives((3, 2), Paper(2, RING).value_at, RING)
        self.gives((6, 1), Paper(2, RING * 2).value_at, RING * 2)
        self.gives((0, 1), Paper(2, RING).value_at, Counts())
        self.gives((0, 1), Paper(2, Counts()).value_at, RING)
        self.gives((BIG, 3), Paper(3, RING).value_at, Counts([(1, 0, BIG)]))
        for q, w in product(some_counts(ORDER, 8, 4), repeat=2):
            wanted = sum(q[x, y] * w[x, y] for x, y in product(range(4), repeat=2))
            self.gives(lowest(wanted, 6), Paper(6, w).value_at, q)

    def test_it_refuses_nothing(self):
        odd = Counts([(0, 0, 2), (40, 3, 5)])
        self.gives((29, 1), Paper(1, odd).value_at, odd)


class HoldsTest(Case):
    def test_by_all_lines(self):
        for order in small_orders()[::3] + some_orders(6, 5, 6):
            for counts in some_counts(order, 4, 3):
                most = max(earned_by(line, counts) for line in lines_of(order))
                for bottom in {max(most - 1, 1), max(most, 1), most + 1}:
                    self.gives(most <= bottom, Paper(bottom, counts).holds_in_order, order)

    def test_examples(self):
        self.gives(True, Paper(2, RING).holds_in_order, antichain(3))
        self.gives(False, Paper(1, RING).holds_in_order, antichain(3))
        # With 0 below 1 the pair (0, 1) is none any more, and each line turns (1, 0).
        self.gives(True, Paper(2, RING).holds_in_order, Order(3, [(0, 1)]))
        self.gives(True, Paper(1, Counts()).holds_in_order, chain(1))

    def test_many_lines(self):
        order = many_lines()
        counts = Counts.ones(order) * BIG
        most = worth(order, counts)
        self.gives(True, Paper(most, counts).holds_in_order, order)
        self.gives(False, Paper(most - 1, counts).holds_in_order, order)

    def test_refusals_in_their_order(self):
        self.fails(Unfit(0, 2), Paper(9, RING).holds_in_order, Order(3, [(0, 2)]))
        self.fails(Unfit(2, 1), Paper(9, RING).holds_in_order, Order(3, [(2, 1)]))
        self.fails(Unfit(0, 2), Paper(9, RING).holds_in_order, antichain(2))
        self.fails(Unfit(3, 3), Paper(9, Counts([(3, 3, 1)])).holds_in_order, antichain(16))
        wide = chain(1) >> five_thousand_lower_sets()
        for order in (wide, antichain(13), antichain(16)):
            for counts in (Counts(), Counts([(0, 1, 0)]), Counts([(order.size - 1, 0, 1)])):
                self.fails(TooMany(5000), Paper(9, counts).holds_in_order, order)
        self.gives(True, Paper(1, Counts()).holds_in_order, five_thousand_lower_sets())
        self.gives(False, Paper(1, Counts([(1, 0, 2)])).holds_in_order, five_thousand_lower_sets())


if __name__ == "__main__":
    unittest.main()
