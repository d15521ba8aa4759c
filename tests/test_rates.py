"""linemix/rates.py, with [51] and [53], and what [113] says of lot_bound."""

import random
import unittest
from math import lcm

from linemix.costs import cost, full_cost, tight_ones
from linemix.counts import Counts
from linemix.errors import BadPair, BadRates, TooMany, Unfit
from linemix.families import Family, family_cost, table_of
from linemix.leading import tight_pairs
from linemix.lots import most_against
from linemix.numbers import is_at_most, lowest
from linemix.rates import lot_bound, rate_bound, rate_tolls
from linemix.shapes import antichain, bent, chain, crown, stacked, standard
from tests.families_support import TRIANGLE, plain_point_pairs, point_counts, sixty_lots, some_families
from tests.support import NO_LISTS, ORDER, CostCase, few_counts, small_orders, some_orders

BIG = 10 ** 30
FAMILIES = some_families(20, 1, 5) + [TRIANGLE, Family(1, [()])]


def some_rates(family, many, most):
    dice = random.Random(f"{family.points} {family.lots} {many} {most}")
    return [[dice.randint(1, most) for _ in range(family.points)] for _ in range(many)]


def some_point_lots(family, many):
    pairs = plain_point_pairs(family)
    dice = random.Random(f"{family.points} {family.lots} {many}")
    return [dice.sample(pairs, dice.randint(0, min(len(pairs), 12))) for _ in range(many)]


class RateTollsTest(CostCase):
    def test_example(self):
        tolls, factor = rate_tolls(TRIANGLE, [(0, 2), (1, 1), (2, 0)], [1, 2, 3])
        self.assertEqual([list(tolls), factor, family_cost(TRIANGLE, tolls)],
                         [[(0, 2, 1), (1, 1, 2), (2, 0, 3)], 6, (6, 1)])

    def test_by_its_words(self):
        for family in FAMILIES + [sixty_lots()]:
            for lot, rates in zip(some_point_lots(family, 3), some_rates(family, 2, 9) + [[1] * family.points]):
                counts, factor = self.told(rate_tolls, family, lot, rates)
                sums = {(a, j): rates[a] + sum(rates[point] for point in family.lots[j]) for a, j in lot}
                self.assertEqual(factor, lcm(1, *sums.values()))
                self.assertIs(type(factor), int)
                self.assertIs(type(counts), Counts)
                self.assertEqual(len(counts), len(lot))
                for a, j in lot:
                    self.assertEqual(counts[a, j] * sums[a, j], rates[a] * factor)
                self.assertTrue(is_at_most(family_cost(family, counts), (factor, 1)))

    def test_no_pair(self):
        counts, factor = self.told(rate_tolls, TRIANGLE, (), (1, 2, 3))
        self.assertEqual((list(counts), factor), ([], 1))
        counts, factor = self.told(rate_tolls, Family(2, [()]), [[1, 0]], (5, 7))
        self.assertEqual((list(counts), factor), ([(1, 0, 7)], 7))

    def test_great_rates(self):
        rates = (10 ** 12, 1, 10 ** 12 - 1)
        counts, factor = self.told(rate_tolls, TRIANGLE, [(0, 2), (1, 1), (2, 0)], rates)
        self.assertEqual(factor, 2 * 10 ** 12)
        self.assertEqual(family_cost(TRIANGLE, counts), (factor, 1))
        family = sixty_lots()
        lot = some_point_lots(family, 1)[0]
        counts, factor = rate_tolls(family, lot, [10 ** 12 + at for at in range(12)])
        self.assertTrue(is_at_most(family_cost(family, counts), (factor, 1)))

    def test_refusals(self):
        for value in (None, 1, True, "01", {(0, 2)}, {(0, 2): 1}, range(2)):
            self.fails(BadPair(-2), rate_tolls, TRIANGLE, value, None)
        for lot, place in (
            ([(0, 2), (0, 1)], 1), ([(0, 0)], 0), ([(0, 3)], 0), ([(3, 0)], 0), ([(-1, 0)], 0), ([(2, -1)], 0),
            ([(0, 2), [0, 2]], 1), ([(0, 2), 1], 1), ([(0,)], 0), ([(0, 2, 1)], 0), ([(False, 2)], 0), ([(0, True)], 0),
            ([(2, False)], 0), ([None], 0), ([{0, 2}], 0), ([("0", 2)], 0), ([((0,), 2)], 0), ([([], 2)], 0),
        ):
            self.fails(BadPair(place), rate_tolls, TRIANGLE, lot, None)
        for value in NO_LISTS:
            self.fails(BadRates(-1), rate_tolls, TRIANGLE, [(0, 2)], value)
            self.fails(BadRates(-1), rate_bound, TRIANGLE, Counts([(0, 2, 1)]), value)
        for rates, place in (((1, 0, 1), 1), ((1, 1), 2), ((), 0), ((1, 1, 1, 1), 4), ((1, 1, True), 2), ((-1, 1, 1), 0),
                             ((1, 1, 1, 0), 3), ((1, "1", 1), 1), ((1.0, 1, 1), 0), ((1, 1, None, 1), 2)):
            self.fails(BadRates(place), rate_tolls, TRIANGLE, [(0, 2)], rates)
            self.fails(BadRates(place), rate_bound, TRIANGLE, Counts([(0, 2, 1)]), rates)
        self.fails(Unfit(0, 0), rate_bound, TRIANGLE, Counts([(0, 0, 1)]), None)


class RateBoundTest(CostCase):
    def test_by_its_words(self):
        for family in FAMILIES + [sixty_lots()]:
            for rates in some_rates(family, 2, 9):
                for tolls in point_counts(family, 2, 5, 9):
                    ends = [lowest(toll * (rates[a] + sum(rates[point] for point in family.lots[j])), rates[a])
                            for a, j, toll in tolls]
                    bound = self.told(rate_bound, family, tolls, rates)
                    self.fraction(bound)
                    if ends:
                        self.assertIn(bound, ends)
                    else:
                        self.assertEqual(bound, (0, 1))
                    self.assertTrue(all(is_at_most(end, bound) for end in ends))
                    self.assertTrue(is_at_most(family_cost(family, tolls), bound))

    def test_bounds_costs_of_orders(self):
        for order in small_orders()[1::4] + some_orders(6, 5, 6):
            for tolls in few_counts(order, 2, 5, 4):
                if len(tolls):
                    _, family, counts = table_of(order, tolls)
                    for rates in some_rates(family, 2, 5):
                        self.assertTrue(is_at_most(cost(order, tolls), rate_bound(family, counts, rates)))

    def test_by_hand(self):
        self.gives((0, 1), rate_bound, TRIANGLE, Counts(), [1, 2, 3])
        self.gives((3, 1), rate_bound, TRIANGLE, Counts([(2, 0, 1)]), [1, 1, 1])
        self.gives((15, 1), rate_bound, TRIANGLE, Counts([(1, 1, 5), (2, 0, 3)]), [2, 10, 3])
        self.gives((15, 2), rate_bound, TRIANGLE, Counts([(1, 1, 5), (2, 0, 1)]), [2, 10, 3])
        self.gives((BIG + 2 * BIG, 1), rate_bound, TRIANGLE, Counts([(0, 2, 1)]), [1, BIG * 3 - 2, 1])


class LotBoundTest(CostCase):
    def plain(self, order):
        if order.size == 1:
            return 0
        if order.is_chain():
            return 1
        tight = tight_pairs(order)
        places = {x for x, _ in tight}
        return 1 + max(sum(order.is_under(x, y) for x in places) for _, y in tight)

    def test_by_its_words(self):
        for order in small_orders() + some_orders(20, 5, 8) + [bent(), antichain(16), standard(8), crown(8, reach=4)]:
            self.gives(self.plain(order), lot_bound, order)

    def test_by_hand(self):
        for order, wanted in ((chain(1), 0), (chain(2), 1), (chain(16), 1), (antichain(2), 2), (ORDER, 3),
                              (standard(3), 3), (standard(8), 8), (stacked([2, 3]), 4), (antichain(16), 2)):
            self.gives(wanted, lot_bound, order)

    def test_bounds_the_full_cost(self):
        # [53], [113]
        for order in small_orders() + some_orders(40, 5, 7):
            if len(tight_ones(order)) > 12:
                self.fails(TooMany(12), most_against, order)
                continue
            full = full_cost(order)
            self.assertTrue(is_at_most(full, (lot_bound(order), 1)))
            self.assertTrue(is_at_most(full, (lot_bound(~order), 1)))
            if order.size > 1:
                self.assertTrue(is_at_most((len(most_against(order)), 1), full))
            for bound in (lot_bound(order), lot_bound(~order)):
                if bound >= 3:
                    self.assertEqual(full == (bound, 1), len(most_against(order)) >= bound)


if __name__ == "__main__":
    unittest.main()
