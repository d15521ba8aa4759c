"""linemix/splits.py, with [38]."""

import unittest

from linemix.costs import best_mix, cost
from linemix.counts import Counts, check_fit, kept_on
from linemix.errors import BadPlace, NotOpen, TooMany, Unfit
from linemix.mixes import Mix
from linemix.numbers import add_up, is_at_most, scaled
from linemix.pairs import all_pairs, open_pairs
from linemix.papers import Paper
from linemix.shapes import antichain, bent, chain, standard
from linemix.splits import couple_costs, split_mix, split_tolls
from linemix.ties import tied
from tests.support import (
    ORDER, CostCase, few_counts, five_thousand_lower_sets, many_lines, small_orders, some_orders,
)

ORDERS = small_orders()[::4] + some_orders(6, 5, 6) + [bent(), standard(3)]


def tolls_of(order):
    return few_counts(order, 1, 3, 4) + few_counts(order, 1, 6, 3) + [Counts()]


class CoupleCostsTest(CostCase):
    def test_are_costs(self):
        for order in ORDERS:
            for x, y in open_pairs(order)[::2]:
                low, high = tied(order, (x, y)), tied(order, (y, x))
                for tolls in tolls_of(order):
                    first, second = self.told(couple_costs, order, tolls, x, y)
                    self.assertEqual(first, cost(low, kept_on(low, tolls)))
                    self.assertEqual(second, cost(high, kept_on(high, tolls)))

    def test_example(self):
        tolls = Counts([(1, 0, 1), (2, 1, 1), (0, 2, 1)])
        self.gives(((2, 1), (1, 1)), couple_costs, antichain(3), tolls, 0, 1)
        self.gives(((1, 1), (2, 1)), couple_costs, antichain(3), tolls, 1, 0)

    def test_what_q_and_r_cost_together(self):
        # If q' fits P' and q'' fits P'', their sum costs at most what both cost there.
        for order in ORDERS[::2]:
            for x, y in open_pairs(order)[::3]:
                low, high = tied(order, (x, y)), tied(order, (y, x))
                for q, r in zip(few_counts(low, 2, 4, 3), few_counts(high, 2, 4, 3)):
                    self.assertTrue(is_at_most(cost(order, q + r), add_up(cost(low, q), cost(high, r))))

    def test_papers_hold_in_both(self):
        for order in ORDERS[::2]:
            for x, y in open_pairs(order)[::3]:
                low, high = tied(order, (x, y)), tied(order, (y, x))
                for weights in few_counts(order, 2, 6, 3):
                    for bottom in (2, 4, 6):
                        both = (Paper(bottom, kept_on(low, weights)).holds_in_order(low),
                                Paper(bottom, kept_on(high, weights)).holds_in_order(high))
                        self.assertEqual(Paper(bottom, weights).holds_in_order(order), all(both))


class SplitMixTest(CostCase):
    def test_parts(self):
        for order in ORDERS:
            for tolls in tolls_of(order):
                mix = best_mix(order, tolls)
                for x, y in open_pairs(order)[::2]:
                    self.parts(order, mix, x, y)

    def parts(self, order, mix, x, y):
        first, second = self.told(split_mix, mix, x, y)
        self.assertEqual((first.bottom, second.bottom), (mix.bottom, mix.bottom))
        self.assertEqual(list(first), [(line, number) for line, number in mix if line.index(y) > line.index(x)])
        self.assertEqual(list(second), [(line, number) for line, number in mix if line.index(x) > line.index(y)])
        self.assertTrue(first.holds_in(tied(order, (x, y))) and second.holds_in(tied(order, (y, x))))
        self.assertEqual(add_up(first.total, second.total), mix.total)
        for a, b in all_pairs(order):
            self.assertEqual(add_up(first.share(a, b), second.share(a, b)), mix.share(a, b))

    def test_any_mix(self):
        mix = Mix(5, [((0, 1, 2), 3), ((2, 1, 0), 4), ((1, 0, 2), 1)])
        first, second = self.told(split_mix, mix, 0, 1)
        self.assertEqual((first.bottom, list(first)), (5, [((0, 1, 2), 3)]))
        self.assertEqual((second.bottom, list(second)), (5, [((1, 0, 2), 1), ((2, 1, 0), 4)]))
        all_there, none_there = self.told(split_mix, Mix(1, [((0, 1), 2)]), 0, 1)
        self.assertEqual((list(all_there), list(none_there)), ([((0, 1), 2)], []))

    def test_no_lines(self):
        for x, y in ((0, 1), (0, 0), (7, 1), (True, None)):
            for part in split_mix(Mix(3, []), x, y):
                self.assertIs(type(part), Mix)
                self.assertEqual((part.bottom, list(part)), (3, []))

    def test_refusals(self):
        mix = Mix(1, [((0, 1, 2), 1)])
        for wrong in (3, -1, True, False, None, "0", 1.0):
            self.fails(BadPlace("x"), split_mix, mix, wrong, 1)
            self.fails(BadPlace("x"), split_mix, mix, wrong, wrong)
            self.fails(BadPlace("y"), split_mix, mix, 1, wrong)
        self.fails(BadPlace("y"), split_mix, mix, 2, 2)


class SplitTollsTest(CostCase):
    def test_parts(self):
        for order in ORDERS:
            for tolls in tolls_of(order):
                for x, y in open_pairs(order)[::3]:
                    self.parts(order, tolls, x, y)

    def parts(self, order, tolls, x, y):
        bottom, first, second = self.told(split_tolls, order, tolls, x, y)
        self.assertTrue(type(bottom) is int and bottom >= 1)
        self.assertEqual(first + second, tolls * bottom)
        low, high = tied(order, (x, y)), tied(order, (y, x))
        self.assertIsNone(check_fit(low, first))
        self.assertIsNone(check_fit(high, second))
        total = add_up(cost(low, first), cost(high, second))
        self.assertEqual(total, scaled(cost(order, tolls), bottom))
        self.assertTrue(is_at_most(self.shown(low, first), total))

    def test_great_tolls_and_many_lines(self):
        for order in (many_lines(), five_thousand_lower_sets(), standard(5)):
            for tolls in few_counts(order, 1, 6, 10 ** 28) + few_counts(order, 1, 30, 10 ** 12):
                x, y = open_pairs(order)[3]
                bottom, first, second = split_tolls(order, tolls, x, y)
                self.assertEqual(first + second, tolls * bottom)
                low, high = tied(order, (x, y)), tied(order, (y, x))
                self.assertEqual(add_up(cost(low, first), cost(high, second)), scaled(cost(order, tolls), bottom))


class RefusalsTest(CostCase):
    def test_in_order(self):
        unfit = Counts([(0, 2, 1)])
        fit = Counts([(1, 0, 1)])
        for call in (couple_costs, split_tolls):
            self.fails(Unfit(0, 2), call, ORDER, unfit, 9, 9)
            for wrong in (4, -1, True, False, None, "0"):
                self.fails(BadPlace("x"), call, ORDER, fit, wrong, wrong)
                self.fails(BadPlace("y"), call, ORDER, fit, 0, wrong)
            for x, y in ((0, 2), (2, 0), (1, 3), (3, 1), (0, 0), (2, 2)):
                self.fails(NotOpen(x, y), call, ORDER, fit, x, y)
            self.fails(NotOpen(0, 0), call, chain(1), Counts(), 0, 0)

    def test_bounds(self):
        order = antichain(7)
        many = Counts.at(all_pairs(order)[:31])
        self.fails(TooMany(30), split_tolls, order, many, 5, 6)
        self.fails(NotOpen(5, 5), split_tolls, order, many, 5, 5)
        # One pair less is tolled behind the one tie, none less behind the other one.
        self.fails(TooMany(30), couple_costs, order, many, 5, 6)
        first, second = all_pairs(order)[:31].count((0, 1)), all_pairs(order)[:31].count((1, 0))
        self.assertEqual((first, second), (1, 1))
        self.assertEqual(len(couple_costs(order, many, 0, 1)), 2)
        for tolls in (Counts(), Counts([(0, 1, 1)])):
            self.fails(TooMany(5000), split_tolls, antichain(13), tolls, 0, 1)
            self.fails(TooMany(5000), couple_costs, antichain(13), tolls, 0, 1)
        # 5001 lower sets in the order, and fewer behind either tie.
        wide = five_thousand_lower_sets() >> chain(1)
        for tolls in (Counts(), Counts([(0, 1, 2), (1, 0, 3)])):
            self.fails(TooMany(5000), split_tolls, wide, tolls, 0, 1)
            self.assertEqual(couple_costs(wide, tolls, 0, 1), ((tolls[1, 0], 1), (tolls[0, 1], 1)))

    def test_the_bounds_of_the_first_cost_come_first(self):
        order = antichain(14)
        kept = [pair for pair in all_pairs(order) if pair != (0, 1)][:30]
        # 31 pairs are tolled behind the one tie, 30 behind the other one.
        tolls = Counts.at(kept + [(0, 1)])
        self.assertIn((1, 0), kept)
        self.fails(TooMany(5000), couple_costs, order, tolls, 0, 1)
        more = Counts.at(kept + [(0, 1), (13, 12)])
        self.fails(TooMany(30), couple_costs, order, more, 0, 1)


if __name__ == "__main__":
    unittest.main()
