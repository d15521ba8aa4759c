"""linemix/commons.py, with [71] and [72]."""

import unittest
from itertools import combinations

from linemix.commons import common_bound, common_mix, common_steps, flipped
from linemix.costs import best_mix, cost, tight_ones
from linemix.counts import Counts, kept_on
from linemix.errors import BadMix, OtherSize, TooMany, Unfit
from linemix.lines import lines_of
from linemix.mixes import Mix
from linemix.numbers import add_up, is_at_most
from linemix.orders import Order
from linemix.pairs import all_pairs
from linemix.shapes import antichain, bent, chain, standard
from linemix.wholes import dimension, whole_lines
from linemix.worths import worth
from tests.support import CostCase, few_counts, orders_of, small_orders, some_counts, some_orders

COUPLES = list(zip(orders_of(4)[::9], orders_of(4)[::-9])) + list(zip(orders_of(3), orders_of(3)[::-1]))
COUPLES += [(one, other) for one in some_orders(8, 5, 6) for other in some_orders(8, 5, 6) if one.size == other.size][::4]


def chain_of_line(line):
    """The chain of the places of the line, the first one lowest."""
    return Order(len(line), list(zip(line, line[1:])))


def common_of(lines, size):
    """The common steps of the lines, read as chains."""
    made = chain_of_line(lines[0])
    for line in lines[1:]:
        made = made & chain_of_line(line)
    return made


class CommonTest(CostCase):
    def test_steps(self):
        for one, other in COUPLES:
            made = self.told(common_steps, one, other)
            self.assertEqual(made, one & other)
            self.assertEqual(set(made), set(one) & set(other))
        for one, other in ((chain(2), chain(3)), (antichain(5), chain(16)), (chain(4), chain(1))):
            self.fails(OtherSize(other.size), common_steps, one, other)

    def test_mixes_and_bounds(self):
        for one, other in COUPLES:
            both = one & other
            for tolls, others in zip(few_counts(one, 2, 4, 4), few_counts(other, 2, 5, 3)):
                mix, mixes = best_mix(one, tolls), best_mix(other, others)
                made = self.told(common_mix, one, other, mix, mixes)
                self.assertEqual(made, mix + mixes)
                self.assertEqual(made.total, add_up(mix.total, mixes.total))
                most = tolls + others
                self.lines_pay(both, made, most)
                bound = self.told(common_bound, one, tolls, other, others)
                self.assertEqual(bound, add_up(cost(one, tolls), cost(other, others)))
                self.assertTrue(is_at_most(cost(both, most), bound))

    def test_worths(self):
        for one, other in COUPLES:
            both = one & other
            for weights in some_counts(both, 3, 5):
                self.assertGreaterEqual(worth(both, weights), worth(one, kept_on(one, weights)))
                self.assertGreaterEqual(worth(both, weights), worth(other, kept_on(other, weights)))

    def test_flipped(self):
        for counts in some_counts(antichain(5), 5, 9) + [Counts(), Counts([(3, 3, 4), (10 ** 30, 0, 5)])]:
            made = self.told(flipped, counts)
            self.assertEqual(list(made), sorted((y, x, number) for x, y, number in counts))
            self.assertEqual(flipped(made), counts)

    def test_flipped_costs(self):
        for order in small_orders()[::6]:
            for tolls in few_counts(order, 2, 4, 4):
                self.assertEqual(cost(~order, flipped(tolls)), cost(order, tolls))


class LinesAsChainsTest(CostCase):
    """[72]."""

    def test_lines_that_pay_have_just_the_steps(self):
        for order in small_orders()[1::2] + some_orders(10, 5, 6) + [bent(), standard(3), standard(4)]:
            ones = tight_ones(order)
            if order.size < 2 or len(ones) > 12:
                continue
            self.assertEqual(common_of(whole_lines(order, ones), order.size), order)
            self.assertEqual(common_of([line for line, _ in best_mix(order, ones)], order.size), order)

    def test_fewer_lines_have_more_steps(self):
        for order in small_orders()[1::9]:
            lines = lines_of(order)
            for many in range(1, dimension(order)):
                for chosen in combinations(lines, many):
                    self.assertNotEqual(common_of(list(chosen), order.size), order)


class RefusalsTest(CostCase):
    def test_mixes(self):
        right, wrong = Mix(1, [((0, 1), 1)]), Mix(1, [((1, 0), 1)])
        self.fails(OtherSize(3), common_mix, chain(2), chain(3), wrong, None)
        for first, second, place in ((wrong, None, 0), (right, wrong, 1), (Mix(2, ()), wrong, 1),
                                     (Mix(1, [((0,), 1)]), right, 0), (right, Mix(1, [((0, 1, 2), 1)]), 1)):
            self.fails(BadMix(place), common_mix, chain(2), chain(2), first, second)
        self.assertEqual(common_mix(chain(2), antichain(2), right, wrong).total, (2, 1))
        self.assertEqual(list(common_mix(chain(2), chain(2), Mix(2, ()), Mix(3, ()))), [])

    def test_bounds(self):
        unfit = Counts([(0, 1, 1)])
        self.fails(Unfit(0, 1), common_bound, chain(2), unfit, chain(3), unfit)
        self.fails(OtherSize(3), common_bound, chain(2), Counts(), chain(3), unfit)
        self.fails(Unfit(0, 1), common_bound, chain(2), Counts(), chain(2), unfit)
        many = Counts.at(all_pairs(antichain(7))[:31])
        self.fails(TooMany(30), common_bound, antichain(7), many, antichain(7), Counts())
        self.fails(TooMany(30), common_bound, antichain(7), Counts(), antichain(7), many)
        self.fails(Unfit(0, 0), common_bound, antichain(7), many, antichain(7), Counts([(0, 0, 1)]))
        self.fails(TooMany(5000), common_bound, antichain(13), Counts(), chain(13), Counts())
        self.fails(TooMany(5000), common_bound, chain(13), Counts(), antichain(13), Counts())
        self.gives((5, 1), common_bound, chain(2), Counts([(1, 0, 2)]), antichain(2), Counts([(1, 0, 1), (0, 1, 2)]))


if __name__ == "__main__":
    unittest.main()
