"""linemix/many.py, with [129] and [130]."""

import unittest
from fractions import Fraction

from linemix.costs import cost, full_cost, tight_ones
from linemix.counts import Counts
from linemix.errors import BadNumber, TooMany, Unfit
from linemix.leading import tight_pairs
from linemix.lots import most_at_once
from linemix.many import greedy_bound, least_times, whole_many
from linemix.numbers import is_at_most
from linemix.orders import Order
from linemix.pairs import all_pairs, sure_pairs
from linemix.products import end_counts, with_ends
from linemix.shapes import antichain, bent, chain, crown, standard
from linemix.wholes import dimension, whole_cost
from tests.plain_support import told
from tests.support import (
    ORDER, CostCase, few_counts, five_thousand_lower_sets, many_lines, orders_of, plain_lines, small_orders, some_orders,
)

ORDERS = small_orders()[::6] + some_orders(6, 5, 6) + [antichain(3), antichain(4), standard(3), bent()]
RING = Counts([(1, 0, 1), (2, 1, 1), (0, 2, 1)])
NO_NUMBERS = (0, -1, None, True, False, "1", 1.0, (1,))


def plain_whole(order, tolls, most):
    """The fewest lines that pay, by a look at all ways to take lines one behind the other; None if above most."""
    sets = [[(x, y) for x, y, _ in tolls if line.index(x) > line.index(y)] for line in plain_lines(order)]
    left = {tuple(toll for _, _, toll in tolls)}
    pairs = [(x, y) for x, y, _ in tolls]
    for many in range(most + 1):
        if any(max(rest, default=0) == 0 for rest in left):
            return many
        left = {tuple(max(0, toll - (pair in turned)) for pair, toll in zip(pairs, rest))
                for rest in left for turned in sets}
    return None


class WholeManyTest(CostCase):
    def test_by_its_words(self):
        for order in ORDERS:
            for tolls in few_counts(order, 2, 3, 2) + few_counts(order, 1, 5, 1) + [Counts()]:
                for many in (1, 2, 3):
                    if tolls.total_count() * many <= 24:
                        value = self.told(whole_many, order, tolls, many)
                        self.assertIs(type(value), int)
                        self.assertEqual(value, whole_cost(order, tolls * many))
                        self.assertGreaterEqual(value, many * Fraction(*cost(order, tolls)))

    def test_plainly(self):
        for order in [antichain(3), ORDER, chain(2) + chain(1)]:
            for tolls in few_counts(order, 4, 3, 2):
                for many in (1, 2):
                    self.assertEqual(whole_many(order, tolls, many), plain_whole(order, tolls * many, 9))

    def test_sums(self):
        # [129]
        for order in ORDERS[::2]:
            for tolls in few_counts(order, 2, 4, 1):
                values = {many: whole_many(order, tolls, many) for many in range(1, 6)}
                for one in range(1, 4):
                    for other in range(1, 6 - one):
                        self.assertLessEqual(values[one + other], values[one] + values[other])

    def test_by_hand(self):
        ones = tight_ones(bent())
        self.assertEqual([whole_many(bent(), ones, 1), whole_many(bent(), ones, 2), least_times(bent(), ones)], [3, 5, 2])
        self.assertEqual([whole_many(antichain(3), RING, many) for many in range(1, 9)], [2, 3, 5, 6, 8, 9, 11, 12])
        self.gives(0, whole_many, antichain(3), Counts(), 10 ** 30)
        self.gives(24, whole_many, chain(2), Counts([(1, 0, 1)]), 24)

    def test_refusals_in_their_order(self):
        self.fails(Unfit(0, 2), whole_many, ORDER, Counts([(0, 2, 1)]), None)
        for wrong in NO_NUMBERS:
            self.fails(BadNumber("many"), whole_many, ORDER, Counts([(1, 0, 1)]), wrong)
            self.fails(BadNumber("many"), whole_many, antichain(13), Counts.ones(antichain(13)), wrong)
        pairs = all_pairs(antichain(5))
        self.fails(TooMany(12), whole_many, antichain(5), Counts.at(pairs[:13]), 99)
        self.told(whole_many, antichain(5), Counts.at(pairs[:12]), 2)
        self.fails(TooMany(24), whole_many, antichain(5), Counts.at(pairs[:12]), 3)
        self.fails(TooMany(24), whole_many, chain(2), Counts([(1, 0, 1)]), 25)
        self.fails(TooMany(24), whole_many, antichain(13), Counts([(1, 0, 5)]), 5)
        self.fails(TooMany(5000), whole_many, antichain(13), Counts([(1, 0, 4)]), 6)
        self.fails(TooMany(5000), whole_many, antichain(13), Counts(), 6)


class LeastTimesTest(CostCase):
    def test_by_its_words(self):
        # [129]
        seen = set()
        for order in ORDERS:
            ring = [RING] if order == antichain(3) else [tight_ones(order)] if order.size > 5 else []
            for tolls in few_counts(order, 3, 4, 2) + few_counts(order, 2, 6, 1) + [Counts()] + ring:
                if len(tolls) > 12 or tolls.total_count() > 24:
                    continue
                value = Fraction(*cost(order, tolls))
                total = tolls.total_count()
                least = next((many for many in range(1, 25) if total * many <= 24
                              and whole_many(order, tolls, many) == many * value), None)
                if least is None:
                    self.fails(TooMany(24), least_times, order, tolls)
                else:
                    seen.add(self.gives(least, least_times, order, tolls))
                    self.assertEqual(least % value.denominator, 0)
        self.assertLessEqual({1, 2}, seen)

    def test_more_times_than_the_bottom_of_the_cost(self):
        # Two rings of three pairs, each pair of the one against each of the other: 3/2 and 3/2 make a whole number,
        # but whole lines pay each ring alone.
        steps = [(x, y) for x in range(6) for y in range(6, 12) if x // 3 != (y - 6) // 3]
        steps += [(x, 6 + x // 3 * 3 + (x + 1) % 3) for x in range(6)]
        order = Order(12, steps)
        ones = Counts([(x, 6 + x, 1) for x in range(6)])
        self.assertEqual(cost(order, ones), (3, 1))
        self.assertEqual([whole_many(order, ones, many) for many in (1, 2, 3, 4)], [4, 6, 10, 12])
        self.gives(2, least_times, order, ones)
        self.gives(1, least_times, order, ones * 4)
        self.fails(TooMany(24), least_times, order, ones * 3)

    def test_products(self):
        # [129]
        one, other = with_ends(antichain(2)), chain(3)
        for tolls in few_counts(one, 3, 3, 2):
            for others in few_counts(other, 2, 1, 2):
                made = end_counts(one, other, tolls, others)
                for many in (1, 2):
                    if made.total_count() * many <= 24:
                        self.assertEqual(whole_many(one * other, made, many),
                                         whole_many(one, tolls, many) + whole_many(other, others, many))
                if made.total_count() <= 12:
                    times = least_times(one * other, made)
                    self.assertGreaterEqual(times, max(least_times(one, tolls), least_times(other, others)))
        ended = with_ends(antichain(3))
        ring = Counts([(x + 1, y + 1, toll) for x, y, toll in RING])
        made = end_counts(ended, chain(2), ring, Counts([(1, 0, 1)]))
        self.assertEqual([least_times(ended, ring), least_times(ended * chain(2), made)], [2, 2])

    def test_bounds(self):
        # N times the sum passes 24: the ring costs 3/2, so it takes 2 times.
        self.gives(1, least_times, antichain(3), RING * 4)
        self.gives(2, least_times, antichain(3), RING * 3)
        self.gives(1, least_times, antichain(3), RING * 8)
        self.fails(TooMany(24), least_times, antichain(3), RING * 7)
        self.fails(TooMany(24), least_times, antichain(3), RING * 5)
        self.fails(TooMany(24), least_times, antichain(3), RING * 9)
        pairs = all_pairs(antichain(5))
        self.fails(TooMany(12), least_times, antichain(5), Counts.at(pairs[:13]))
        self.fails(TooMany(12), least_times, antichain(5), Counts.at(pairs[:13], number=2))
        self.fails(Unfit(0, 2), least_times, ORDER, Counts([(0, 2, 30)]))
        self.fails(TooMany(24), least_times, antichain(13), Counts([(0, 1, 25)]))
        self.fails(TooMany(5000), least_times, antichain(13), Counts([(0, 1, 24)]))
        self.fails(TooMany(5000), least_times, antichain(13), Counts())
        self.fails(TooMany(5000), least_times, five_thousand_lower_sets() >> chain(1), Counts())
        self.gives(1, least_times, many_lines(), Counts())
        self.gives(1, least_times, chain(2), Counts([(1, 0, 24)]))
        self.gives(1, least_times, chain(16), Counts.at(sure_pairs(chain(16))[:12], number=2))


class GreedyTest(CostCase):
    def test_by_its_words(self):
        # [130]
        for order in ORDERS + [standard(4), crown(4, reach=1), crown(5)] + orders_of(2):
            tight = tight_pairs(order)
            if order.is_chain():
                self.gives((0, 1), greedy_bound, order)
            elif len(tight) > 12:
                self.fails(TooMany(12), greedy_bound, order)
            else:
                most = most_at_once(order, tight)
                total = sum(Fraction(1, part) for part in range(1, most + 1))
                bound = self.gives(told(total * Fraction(*full_cost(order))), greedy_bound, order)
                self.assertTrue(is_at_most(full_cost(order), (dimension(order), 1)))
                self.assertTrue(is_at_most((dimension(order), 1), bound))
                self.assertEqual(dimension(order) == 2, full_cost(order) == (2, 1))

    def test_edges(self):
        self.gives((0, 1), greedy_bound, chain(1))
        self.gives((0, 1), greedy_bound, chain(16))
        self.gives((3, 1), greedy_bound, standard(3))
        self.gives((15, 4), greedy_bound, bent())
        self.gives((8, 1), greedy_bound, standard(8))
        self.gives((2, 1), greedy_bound, antichain(2))
        self.assertEqual(len(tight_pairs(antichain(4))), 12)
        self.told(greedy_bound, antichain(4))
        self.fails(TooMany(12), greedy_bound, antichain(5))
        self.fails(TooMany(12), greedy_bound, antichain(16))
        self.fails(TooMany(12), greedy_bound, five_thousand_lower_sets() >> chain(1))


if __name__ == "__main__":
    unittest.main()
