"""What holds of costs, worths and whole costs together: [35] to [43], [47], [48], [54], [59] and [106]."""

import unittest
from itertools import product

from linemix.costs import best_mix, best_paper, cost, full_cost, tight_ones
from linemix.counts import Counts
from linemix.families import family_cost, table_of
from linemix.leading import tight_pairs
from linemix.lots import most_against
from linemix.mixes import Mix
from linemix.moving import falls
from linemix.numbers import add_up, greater_of, is_at_most, lowest, scaled
from linemix.orders import Order
from linemix.pairs import against, all_pairs, open_pairs
from linemix.papers import Paper
from linemix.rowing import row_cost
from linemix.shapes import antichain, bent, standard
from linemix.turning import turns
from linemix.wholes import dimension, whole_cost
from linemix.worths import richest, worth
from tests.support import (
    CostCase, few_counts, flipped_plainly, renumbered, small_orders, some_counts, some_orders,
)

ORDERS = small_orders()[::3] + some_orders(10, 5, 6) + [bent(), standard(3), antichain(5)]


def some_tolls(order):
    return few_counts(order, 2, 4, 5) + few_counts(order, 1, 9, 2)


def two_rows_of(order):
    """The order in two rows, by its words."""
    size = order.size
    return Order(2 * size, [(x, size + y) for x in range(size) for y in range(size) if order.is_under(x, y)])


class OtherSideTest(CostCase):
    """[35]."""

    def test_products(self):
        for order in ORDERS:
            for tolls, weights in product(some_tolls(order), some_counts(order, 3, 4)):
                top, bottom = cost(order, tolls)
                self.assertLessEqual(tolls.product_sum(weights) * bottom, top * worth(order, weights))

    def test_paper_reaches_the_cost_and_pairs_that_are_turned_reach_the_worth(self):
        for order in ORDERS:
            for tolls in some_tolls(order):
                paper = best_paper(order, tolls)
                self.assertLessEqual(worth(order, paper.counts), paper.bottom)
                self.assertEqual(best_mix(order, tolls).total, paper.value_at(tolls))
            for weights in some_counts(order, 2, 5):
                line = richest(order, weights)
                turned = Counts.at([pair for pair in all_pairs(order) if turns(line, pair)])
                self.assertTrue(is_at_most(cost(order, turned) if len(turned) <= 30 else (1, 1), (1, 1)))
                self.assertEqual(turned.product_sum(weights), worth(order, weights))

    def test_cost_at_most_one_is_worth_no_more(self):
        # The tolls over their cost cost 1: their products with weights are at most the worth.
        for order in ORDERS:
            for tolls, weights in product(some_tolls(order), some_counts(order, 2, 4)):
                if len(tolls):
                    paper = Paper(1, weights)
                    value = paper.value_at(tolls)
                    self.assertTrue(is_at_most(value, scaled(cost(order, tolls), worth(order, weights))))


class RulesTest(CostCase):
    """[36]."""

    def test_factors(self):
        for order in ORDERS:
            for tolls in some_tolls(order):
                for factor in (0, 1, 2, 7, 10 ** 28):
                    self.assertEqual(cost(order, tolls * factor), scaled(cost(order, tolls), factor))

    def test_sums(self):
        for order in ORDERS:
            for first, second in product(some_tolls(order), repeat=2):
                both = cost(order, first + second)
                self.assertTrue(is_at_most(both, add_up(cost(order, first), cost(order, second))))
                # It does not fall if tolls grow.
                self.assertTrue(is_at_most(greater_of(cost(order, first), cost(order, second)), both))

    def test_one_toll_more(self):
        for order in ORDERS[::2]:
            for tolls in some_tolls(order):
                for x, y in all_pairs(order)[::3]:
                    more = tolls.with_count(x, y, tolls[x, y] + 1)
                    if len(more) <= 30:
                        self.assertTrue(is_at_most(cost(order, tolls), cost(order, more)))
                        self.assertTrue(is_at_most(cost(order, more), add_up(cost(order, tolls), (1, 1))))

    def test_tolls_that_are_pairwise_against(self):
        for order in ORDERS:
            for tolls in some_tolls(order):
                self.assertTrue(is_at_most((tolls.greatest_count(), 1), cost(order, tolls)))
                for one, other in product(tolls, repeat=2):
                    if against(order, one[:2], other[:2]):
                        self.assertTrue(is_at_most((one[2] + other[2], 1), cost(order, tolls)))

    def test_sums_and_halves_of_mixes_and_papers(self):
        for order in ORDERS[::2]:
            first, second = some_tolls(order)[:2]
            mix, other = best_mix(order, first), best_mix(order, second)
            self.assertTrue((mix + other).pays(first + second))
            self.assertEqual((mix + other).total, add_up(mix.total, other.total))
            both = best_mix(order, first) + Mix(1, list(best_mix(order, second * 2)))
            half = Mix(2 * both.bottom, list(both))
            least = Counts([(x, y, min(first[x, y], 2 * second[x, y])) for x, y in all_pairs(order)])
            self.assertTrue(half.pays(Counts([(x, y, number // 2) for x, y, number in least])))
            paper, its_paper = best_paper(order, first), best_paper(order, second)
            middle = Paper(2 * paper.bottom * its_paper.bottom,
                           paper.counts * its_paper.bottom + its_paper.counts * paper.bottom)
            self.assertTrue(middle.holds_in_order(order))


class SmallerTest(CostCase):
    """[37]."""

    def test_sub_orders(self):
        for order in ORDERS + [standard(4)]:
            for tolls in few_counts(order, 4, 3, 4):
                places = sorted({place for x, y, _ in tolls for place in (x, y)})
                for chosen in (places, sorted({0, *places}), list(range(order.size))):
                    if chosen:
                        below = order.on(chosen)
                        self.assertEqual(cost(below, renumbered(tolls, chosen)), cost(order, tolls))
                        self.assertEqual(worth(below, renumbered(tolls, chosen)), worth(order, tolls))

    def test_upside_down(self):
        for order in ORDERS:
            for tolls in some_tolls(order):
                self.assertEqual(cost(~order, flipped_plainly(tolls)), cost(order, tolls))
            self.assertEqual(full_cost(~order), full_cost(order))
            if len(tight_pairs(order)) <= 12:
                self.assertEqual(dimension(~order), dimension(order))


class OneNumberTest(CostCase):
    """[59], as far as these modules tell it."""

    def test_all_tellings(self):
        for order in ORDERS + some_orders(10, 6, 8):
            for tolls in some_tolls(order):
                value = cost(order, tolls)
                self.assertEqual(row_cost(order, tolls), value)
                self.assertEqual(cost(~order, flipped_plainly(tolls)), value)
                if len(tolls):
                    _, family, counts = table_of(order, tolls)
                    self.assertEqual(family_cost(family, counts), value)
                if order.size <= 6:
                    moved = Counts([(x, order.size + y, toll) for x, y, toll in tolls])
                    self.assertEqual(cost(two_rows_of(order), moved), value)


class TightTest(CostCase):
    """[39]."""

    def test_full_cost_and_dimension(self):
        for order in small_orders():
            ones = Counts.ones(order)
            self.assertEqual(cost(order, ones), full_cost(order))
            self.assertTrue(falls(order, ones))
            if len(ones) <= 12:
                self.assertEqual(whole_cost(order, ones), dimension(order))


class StandardTest(CostCase):
    """[106]."""

    def test_tolls_add_up(self):
        for many in range(2, 7):
            order = standard(many)
            for row in ((1,) * many, tuple(range(1, many + 1)), (10 ** 28, 1) + (10 ** 12,) * (many - 2),
                        (0, 5) + (1,) * (many - 2)):
                tolls = Counts([(i, many + i, toll) for i, toll in enumerate(row)])
                self.shown(order, tolls, (sum(row), 1))
                self.assertEqual(worth(order, tolls), max(row))
                if sum(row) <= 24:
                    self.assertEqual(whole_cost(order, tolls), sum(row))

    def test_great_ones(self):
        for many in range(2, 9):
            order = standard(many)
            self.gives((many, 1), full_cost, order)
            self.gives(many, dimension, order)
            self.gives((3 * many, 1), cost, order, Counts([(i, many + i, 3) for i in range(many)]))
            self.assertEqual(most_against(order) if many > 2 else tight_pairs(order)[:2], tight_pairs(order)[:many])

    def test_within_other_orders(self):
        # [53], [113]: pairs that are pairwise against bound the full cost.
        for order in some_orders(30, 6, 8):
            if len(tight_pairs(order)) <= 12:
                lot = most_against(order)
                self.assertTrue(is_at_most((len(lot), 1), cost(order, Counts.at(lot))))
                self.assertTrue(is_at_most((len(lot), 1), full_cost(order)))


class WholeAndCostTest(CostCase):
    """[43]: whole costs beside costs."""

    def test_many_times(self):
        for order in small_orders()[::8] + some_orders(4, 5, 6):
            for tolls in few_counts(order, 2, 3, 2):
                top, bottom = cost(order, tolls)
                if bottom * tolls.total_count() <= 24:
                    self.assertGreaterEqual(whole_cost(order, tolls * bottom), top)
                mix = best_mix(order, tolls)
                self.assertEqual(lowest(sum(number for _, number in mix), mix.bottom), (top, bottom))

    def test_open_pairs_of_chains_and_ones(self):
        for order in small_orders():
            for pair in open_pairs(order)[::3]:
                self.assertEqual(whole_cost(order, Counts.at([pair], number=5)), 5)
                self.assertEqual(cost(order, tight_ones(order).with_count(pair[0], pair[1], 24)),
                                 add_up((24, 1), (1, 1)) if order.size > 1 else (0, 1))


if __name__ == "__main__":
    unittest.main()
