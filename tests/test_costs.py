"""linemix/costs.py: [34], [35], [39], [40] and [44], each cost shown from both sides."""

import unittest

from linemix.costs import best_mix, best_paper, cost, full_cost, tight_ones
from linemix.counts import Counts
from linemix.errors import TooMany, Unfit
from linemix.leading import tight_pairs
from linemix.mixes import Mix
from linemix.numbers import greater_of, lowest
from linemix.orders import Order
from linemix.pairs import all_pairs, open_pairs, sure_pairs
from linemix.papers import Paper
from linemix.rings import ring_around
from linemix.shapes import antichain, bent, chain, crown, stacked, standard
from tests.support import (
    ORDER, CostCase, few_counts, five_thousand_lower_sets, many_lines, small_orders, some_counts, some_orders,
)

BIG = 10 ** 30
CALLS = (cost, best_mix, best_paper)


class CostTest(CostCase):
    def test_small_orders(self):
        for order in small_orders():
            for tolls in few_counts(order, 2, 3, 4) + few_counts(order, 2, 6, 3) + some_counts(order, 1, BIG):
                self.shown(order, tolls)

    def test_more_places(self):
        for order in some_orders(25, 5, 6) + [bent(), standard(3), antichain(6), antichain(5)]:
            for tolls in few_counts(order, 3, 5, 5) + few_counts(order, 2, 12, 3) + few_counts(order, 1, 30, 2):
                self.shown(order, tolls)

    def test_example(self):
        self.gives((3, 2), cost, antichain(3), Counts([(1, 0, 1), (2, 1, 1), (0, 2, 1)]))

    def test_no_toll(self):
        for order in (chain(1), chain(2), chain(16), antichain(4), ORDER, standard(6)):
            for tolls in (Counts(), Counts([(0, 1, 0), (0, 0, 0), (99, 3, 0)])):
                self.gives((0, 1), cost, order, tolls)
                self.assertEqual(list(self.told(best_mix, order, tolls)), [])
                self.assertEqual(best_mix(order, tolls).total, (0, 1))
                self.assertEqual(list(self.told(best_paper, order, tolls)), [])
                self.shown(order, tolls, (0, 1))

    def test_one_toll(self):
        for order in small_orders()[::7] + [chain(16), many_lines()]:
            for x, y in all_pairs(order)[::5][:8]:
                for toll in (1, 10 ** 28):
                    self.shown(order, Counts([(x, y, toll)]), (toll, 1))

    def test_chains(self):
        for size in (2, 5, 8, 16):
            pairs = [(x, y) for x in range(size) for y in range(x)][:30]
            self.shown(chain(size), Counts([(x, y, x + y) for x, y in pairs]), (max(x + y for x, y in pairs), 1))

    def test_couples(self):
        for first, second in ((1, 1), (2, 5), (10 ** 12, 1), (BIG, BIG)):
            self.shown(antichain(2), Counts([(0, 1, first), (1, 0, second)]), (first + second, 1))
        self.shown(ORDER, Counts([(0, 1, 3), (1, 0, 4), (2, 3, 9), (3, 2, 1)]), (10, 1))

    def test_sure_pairs(self):
        order = chain(2) + antichain(1)
        self.shown(order, Counts([(1, 0, 5), (0, 2, 2), (2, 1, 2)]), (5, 1))
        self.shown(order, Counts([(1, 0, 4), (0, 2, 2), (2, 1, 2)]), (4, 1))
        self.shown(order, Counts([(1, 0, 3), (0, 2, 2), (2, 1, 2)]), (4, 1))

    def test_rings(self):
        for size in range(2, 11):
            order = antichain(size)
            tolls = Counts.at(ring_around(order, tuple(range(size))))
            self.shown(order, tolls, (size, size - 1))
            self.shown(order, tolls * 10 ** 28, lowest(size * 10 ** 28, size - 1))

    def test_rings_of_unlike_tolls(self):
        for row in ((1, 1, 1, 1), (2, 1, 1, 1), (2, 2, 1, 1), (2, 2, 2, 1), (3, 1, 1, 1), (10 ** 12, 10 ** 12, 5, 1),
                    (2 * 10 ** 12, 2 * 10 ** 12, 2 * 10 ** 12, 1), (BIG, BIG, BIG - 1, 1), (5, 1, 4), (5, 3, 3), (1, 9)):
            order = antichain(len(row))
            ring = ring_around(order, tuple(range(len(row))))
            wanted = greater_of((max(row), 1), lowest(sum(row), len(row) - 1))
            self.shown(order, Counts([(x, y, toll) for (x, y), toll in zip(ring, row)]), wanted)

    def test_great_and_small_tolls(self):
        for order in (antichain(4), standard(3), bent(), many_lines(), ORDER):
            for at, tolls in enumerate(few_counts(order, 4, 8, 3)):
                great = Counts([(x, y, toll * (1, 10 ** 12, 10 ** 28)[(x + y + at) % 3]) for x, y, toll in tolls])
                self.shown(order, great)
        near = Counts([(1, 0, 10 ** 28), (2, 1, 10 ** 28 + 1), (0, 2, 10 ** 28 - 1)])
        self.shown(antichain(3), near, (3 * 10 ** 28 // 2, 1))
        self.shown(antichain(3), near.with_count(0, 2, 1), (10 ** 28 + 1, 1))

    def test_not_just_the_dearest_ring(self):
        self.shown(standard(3), Counts.at(tight_pairs(standard(3))), (3, 1))
        self.shown(bent(), Counts.at(tight_pairs(bent())), (5, 2))

    def test_results_that_are_great_are_taken_again(self):
        tolls = Counts([(1, 0, BIG ** 3), (2, 1, 3 * BIG ** 3), (0, 2, 3 * BIG ** 3)])
        self.shown(antichain(3), tolls, (7 * BIG ** 3 // 2, 1))


class TightOnesTest(CostCase):
    def test_by_hand(self):
        self.assertEqual(list(tight_ones(chain(1))), [])
        self.assertEqual(list(tight_ones(chain(2))), [(1, 0, 1)])
        self.assertEqual(list(tight_ones(Order(3, [(2, 0), (0, 1)]))), [(0, 2, 1)])
        self.assertEqual(list(tight_ones(ORDER)), [(0, 3, 1), (1, 0, 1), (3, 2, 1)])
        self.assertEqual(tight_ones(antichain(3)), Counts.ones(antichain(3)))

    def test_small_orders(self):
        for order in small_orders() + [bent(), many_lines(), standard(8), crown(8, reach=3)]:
            wanted = tight_pairs(order)
            if order.is_chain():
                wanted = sure_pairs(order)[:1]
            self.assertEqual(self.told(tight_ones, order), Counts.at(wanted))


class FullCostTest(CostCase):
    def test_is_the_cost_of_all_pairs(self):
        for order in small_orders() + some_orders(20, 5, 6):
            value = self.told(full_cost, order)
            self.fraction(value)
            self.assertEqual(value, cost(order, tight_ones(order)))
            if len(all_pairs(order)) <= 30:
                self.shown(order, Counts.ones(order), value)

    def test_known_ones(self):
        for order, wanted in (
            (chain(1), (0, 1)), (chain(2), (1, 1)), (chain(16), (1, 1)), (antichain(2), (2, 1)),
            (antichain(5), (2, 1)), (ORDER, (2, 1)), (bent(), (5, 2)), (chain(8) + chain(5), (2, 1)),
            (stacked([3, 3, 3]), (2, 1)), (crown(4, reach=1), (8, 3)), (crown(5, reach=1), (10, 3)),
            (crown(6, reach=2), (3, 1)), (chain(2) * chain(2) * chain(2), (3, 1)),
        ):
            self.gives(wanted, full_cost, order)

    def test_values(self):
        # [40]
        for order in small_orders() + some_orders(20, 5, 6):
            top, bottom = full_cost(order)
            if order.size == 1:
                self.assertEqual((top, bottom), (0, 1))
            elif order.is_chain():
                self.assertEqual((top, bottom), (1, 1))
            else:
                self.assertGreaterEqual(top, 2 * bottom)

    def test_bounds(self):
        # Tight pairs 30, and 32; then the lower sets.
        self.gives((2, 1), full_cost, antichain(6))
        self.fails(TooMany(30), full_cost, antichain(7))
        self.fails(TooMany(30), full_cost, antichain(16))
        self.fails(TooMany(30), full_cost, chain(1) >> five_thousand_lower_sets())


class BoundsTest(CostCase):
    """[44] and [0.6]."""

    def refused(self, error, order, tolls):
        for call in CALLS:
            self.fails(error, call, order, tolls)

    def test_thirty_tolls(self):
        pairs = all_pairs(antichain(6))
        self.shown(antichain(6), Counts.at(pairs), (2, 1))
        order = antichain(7)
        pairs = all_pairs(order)
        self.shown(order, Counts.at(pairs[:30]))
        self.refused(TooMany(30), order, Counts.at(pairs[:31]))
        # Counts of 0 are no tolled pairs.
        self.shown(order, Counts([(x, y, 1 if at < 30 else 0) for at, (x, y) in enumerate(pairs)]))

    def test_thirty_sure_tolls(self):
        order = chain(10)
        sure = sure_pairs(order)
        self.shown(order, Counts([(x, y, at + 1) for at, (x, y) in enumerate(sure[:30])]), (30, 1))
        self.refused(TooMany(30), order, Counts.at(sure[:31]))
        levels = stacked([2, 3, 3, 2])
        self.shown(levels, Counts.at(sure_pairs(levels)[:30], number=4), (4, 1))

    def test_lower_sets(self):
        order = five_thousand_lower_sets()
        for tolls in [Counts(), Counts([(0, 1, 0)])] + few_counts(order, 2, 5, 9) + few_counts(order, 3, 30, 10 ** 28):
            self.shown(order, tolls)
        for more in (chain(1) >> order, order >> chain(1), antichain(13), antichain(16), chain(1) + antichain(12)):
            pairs = open_pairs(more)
            for tolls in (Counts(), Counts([(0, 1, 0)]), Counts.at(pairs[:1]), Counts.at(pairs[:30])):
                self.refused(TooMany(5000), more, tolls)

    def test_which_bound_first(self):
        for order in (antichain(13), antichain(16), chain(1) >> five_thousand_lower_sets()):
            pairs = all_pairs(order)
            self.refused(TooMany(30), order, Counts.at(pairs[:31]))
            self.refused(TooMany(5000), order, Counts.at(pairs[:30]))

    def test_all_counts_of_all_pairs_of_twelve_places(self):
        # 4096 lower sets are few enough.
        order = antichain(12)
        for tolls in few_counts(order, 2, 30, 3):
            self.shown(order, tolls)

    def test_many_lines(self):
        order = many_lines()
        for tolls in few_counts(order, 4, 4, 5) + few_counts(order, 3, 30, 10 ** 28):
            self.shown(order, tolls)
        grid = chain(2) * chain(2) * chain(2) * chain(2)
        self.gives((4, 1), full_cost, grid)

    def test_unfit(self):
        for order, counts, x, y in (
            (chain(2), [(0, 1, 3), (1, 0, 2)], 0, 1), (ORDER, [(1, 0, 1), (1, 2, 1), (2, 2, 1)], 1, 2),
            (antichain(3), [(0, 1, 1), (1, 1, 1), (3, 0, 1)], 1, 1), (antichain(3), [(3, 0, 1), (0, 7, 2)], 0, 7),
            (chain(1), [(0, 0, 1)], 0, 0),
        ):
            self.refused(Unfit(x, y), order, Counts(counts))
        # Ahead of the bounds.
        many = [(x, y, 1) for x in range(16) for y in range(16)]
        self.refused(Unfit(0, 0), antichain(16), Counts(many))
        self.refused(Unfit(15, 16), antichain(16), Counts([(15, 16, 1)]))

    def test_kinds(self):
        self.assertIs(type(best_mix(ORDER, Counts([(1, 0, 1)]))), Mix)
        self.assertIs(type(best_paper(ORDER, Counts([(1, 0, 1)]))), Paper)
        self.assertIs(type(tight_ones(ORDER)), Counts)


if __name__ == "__main__":
    unittest.main()
