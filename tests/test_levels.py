"""linemix/levels.py, with [117] to [119]."""

import unittest
from itertools import combinations, permutations

from linemix.chains import width
from linemix.costs import cost, full_cost, tight_ones
from linemix.counts import Counts
from linemix.errors import NotForest, NotLevel, TooMany, Unfit
from linemix.evens import clear_line
from linemix.levels import beside_step, is_forest, level_cost, levels_of, tree_line
from linemix.lines import is_line
from linemix.numbers import is_at_most
from linemix.odds import odd_round
from linemix.onemore import without
from linemix.orders import Order
from linemix.pairs import all_pairs, open_pairs, sure_pairs
from linemix.putting import put_in
from linemix.rings import is_turnable
from linemix.series import is_series
from linemix.shapes import antichain, bent, chain, stacked, standard
from tests.plain_support import is_plainly_clear
from tests.support import (
    ORDER, CostCase, few_counts, many_lines, orders_of, small_orders, some_orders,
)

BIG = 10 ** 30
STACKS = [stacked(sizes) for sizes in ([1], [5], [1, 1, 1], [2, 1, 3], [3, 2], [1, 4, 1], [2, 2, 2])]
FORESTS = [Order(6, [(0, 2), (1, 2), (3, 4)]), Order(7, [(0, 6), (1, 6), (2, 1), (3, 1), (4, 5)]), Order(5, [(4, 0)]),
           chain(4) + chain(3) + chain(2), (antichain(2) >> chain(1)) + (antichain(3) >> chain(2))]


class LevelsTest(CostCase):
    def test_beside_step(self):
        for order in small_orders() + some_orders(20, 5, 7) + STACKS + [many_lines(), standard(8)]:
            found = [(u, v, z) for u, v in order.steps_told() for z in range(order.size)
                     if order.are_open(u, z) and order.are_open(z, v)]
            self.gives(found[0] if found else None, beside_step, order)

    def test_what_holds_together(self):
        # [117]
        seen = set()
        for order in small_orders() + some_orders(10, 5, 5) + STACKS[:4]:
            levels = self.told(levels_of, order)
            if levels is not None:
                self.assertEqual(sorted(place for level in levels for place in level), list(range(order.size)))
                for at, level in enumerate(levels):
                    self.assertEqual(level, tuple(sorted(level)))
                    for other in range(order.size):
                        inside, above = other in level, any(other in later for later in levels[at + 1:])
                        for place in level:
                            self.assertEqual(order.are_open(place, other), inside and place != other)
                            self.assertEqual(order.is_below(place, other), above)
            self.assertEqual(levels is not None, beside_step(order) is None)
            rows = list(permutations(range(order.size)))
            fine = all(is_turnable(order, [(x, y) for x, y in open_pairs(order) if row.index(x) > row.index(y)])
                       for row in rows[::max(1, len(rows) // 24)])
            if order.size <= 4:
                self.assertEqual(levels is not None, fine)
            else:
                self.assertTrue(fine or levels is None)
            seen.add(levels is None)
        self.assertEqual(seen, {True, False})

    def test_by_hand(self):
        self.gives([(0, 1), (2,), (3, 4, 5)], levels_of, stacked([2, 1, 3]))
        self.gives([(1, 3), (0, 2)], levels_of, Order(4, [(1, 0), (3, 0), (1, 2), (3, 2)]))
        self.gives([(0,)], levels_of, chain(1))
        self.gives([tuple(range(16))], levels_of, antichain(16))
        self.gives([(place,) for place in range(16)], levels_of, chain(16))
        self.gives(None, levels_of, ORDER)
        self.gives((0, 2, 3), beside_step, ORDER)

    def test_costs_of_steps_beside(self):
        # [117]
        for order in small_orders() + some_orders(10, 5, 6):
            found = beside_step(order)
            if found is not None:
                u, v, z = found
                ones = Counts([(u, z, 1), (z, v, 1)])
                self.assertEqual([cost(order, ones), cost(antichain(order.size), ones)], [(2, 1), (1, 1)])

    def test_level_costs(self):
        # [117]
        for order in [order for order in small_orders() + STACKS if levels_of(order) is not None]:
            for tolls in few_counts(order, 2, 9, 4) + few_counts(order, 1, 5, BIG) + [Counts()]:
                value = self.told(level_cost, order, tolls)
                self.assertEqual(value, cost(order, tolls))
                opened = Counts([(x, y, toll) for x, y, toll in tolls if order.are_open(x, y)])
                self.assertEqual(level_cost(order, opened), cost(antichain(order.size), opened))

    def test_level_costs_by_hand(self):
        order = stacked([2, 1, 3])
        tolls = Counts([(0, 1, 2), (1, 0, 3), (2, 0, 4), (3, 4, 3), (4, 5, 3), (5, 3, 3), (5, 0, 1)])
        self.gives((5, 1), level_cost, order, tolls)
        self.gives((9, 1), level_cost, order, tolls + Counts([(2, 1, 9)]))
        self.gives((9, 2), level_cost, order, Counts([(3, 4, 3), (4, 5, 3), (5, 3, 3)]))
        self.gives((0, 1), level_cost, chain(1), Counts())
        self.gives((BIG, 1), level_cost, chain(16), Counts([(15, 0, BIG)]))

    def test_bounds(self):
        # Only a level with a toll between two of its places meets the bound of lower sets.
        order = antichain(13) >> antichain(3)
        tolls = Counts([(13, 14, 1), (14, 13, 2), (13, 0, 7), (15, 12, 1)])
        self.gives((7, 1), level_cost, order, tolls)
        self.fails(TooMany(5000), level_cost, order, tolls + Counts([(0, 1, 1)]))
        self.gives((7, 1), level_cost, antichain(12) >> antichain(4), Counts([(0, 1, 7)]))
        self.fails(TooMany(5000), level_cost, antichain(13), Counts([(0, 1, 7)]))
        self.gives((0, 1), level_cost, antichain(16), Counts())
        for order in (antichain(7), chain(16), antichain(16), stacked([3, 5])):
            pairs = all_pairs(order)
            self.fails(TooMany(30), level_cost, order, Counts.at(pairs[:31]))
            if order.size < 16:
                self.told(level_cost, order, Counts.at(pairs[:30]))
        self.assertEqual(level_cost(chain(16), Counts.at(sure_pairs(chain(16))[:30])), (1, 1))

    def test_refusals_in_their_order(self):
        self.fails(NotLevel(), level_cost, ORDER, Counts([(0, 2, 1)]))
        self.fails(NotLevel(), level_cost, many_lines(), Counts.ones(many_lines()))
        self.fails(Unfit(0, 1), level_cost, chain(2), Counts([(0, 1, 1), (1, 1, 1)]))
        order = antichain(16)
        self.fails(Unfit(3, 3), level_cost, order, Counts.ones(order) + Counts([(3, 3, 1)]))
        self.fails(TooMany(30), level_cost, order, Counts.ones(order))


class ForestTest(CostCase):
    def plain_forest(self, order):
        return all(not order.are_open(x, y) for place in range(order.size)
                   for x, y in combinations(order.above(place), 2))

    def test_forests(self):
        # [118]
        seen = 0
        for order in small_orders() + some_orders(40, 5, 6) + FORESTS + STACKS:
            forest = self.gives(self.plain_forest(order), is_forest, order)
            if not forest:
                self.fails(NotForest(), tree_line, order)
                continue
            seen += 1
            line = self.told(tree_line, order)
            self.assertIs(type(line), tuple)
            self.assertTrue(is_line(order, line) and is_plainly_clear(order, line))
            wanted = (0, 1) if order.size == 1 else (1, 1) if order.is_chain() else (2, 1)
            if len(tight_ones(order)) <= 30:
                self.assertEqual(full_cost(order), wanted)
        self.assertGreater(seen, 50)

    def test_sixteen_places(self):
        for order in (antichain(16), chain(16), many_lines(), antichain(15) >> chain(1)):
            self.assertTrue(is_forest(order))
            line = self.told(tree_line, order)
            self.assertTrue(is_line(order, line) and is_plainly_clear(order, line))
        self.gives(False, is_forest, chain(1) >> antichain(15))
        self.gives(False, is_forest, standard(8))


class CostTwoTest(CostCase):
    def cost_two(self, order):
        self.assertTrue(is_at_most(full_cost(order), (2, 1)))
        self.assertIsNone(odd_round(order))
        self.assertIsNotNone(clear_line(order))

    def test_orders_of_cost_two_or_less(self):
        # [119]
        kinds = [order for order in small_orders()[::2] + STACKS + FORESTS
                 if (levels_of(order) is not None or is_forest(order) or is_series(order))
                 and len(tight_ones(order)) <= 30]
        for order in kinds:
            self.cost_two(order)
        parts = [chain(1), stacked([2, 1]), FORESTS[2], chain(2) + chain(1), antichain(2)]
        for order in [order for order in kinds if order.size in (2, 3)][::3]:
            for shift in range(5):
                made = put_in(order, [parts[(shift + 2 * x) % 5] for x in range(order.size)])
                if len(tight_ones(made)) <= 30:
                    self.cost_two(made)

    def test_without_one_place(self):
        # [119]
        seen = set()
        for order in orders_of(4)[::9] + some_orders(30, 5, 6) + [standard(3), bent()]:
            for x in range(order.size):
                rest = without(order, (x,))
                if is_forest(rest) or is_series(rest) or width(rest) <= 2:
                    seen.add(full_cost(order))
                    self.assertTrue(is_at_most(full_cost(order), (3, 1)))
        self.assertLessEqual({(2, 1), (5, 2)}, seen)


if __name__ == "__main__":
    unittest.main()
