"""linemix/separates.py, with [114] to [116]."""

import random
import unittest
from itertools import combinations

from linemix.costs import cost, full_cost
from linemix.counts import Counts
from linemix.errors import BadNumber, BadSet, TooMany, Unfit
from linemix.numbers import is_at_most, lowest
from linemix.orders import Order
from linemix.pairs import all_pairs, open_pairs
from linemix.papers import Paper
from linemix.putting import put_in
from linemix.separates import cut_cost, cut_line, cut_lot, cut_paper, cut_share, cut_worth, separate_steps
from linemix.shapes import antichain, bent, chain, crown, stacked, standard
from linemix.ties import tied
from linemix.worths import worth
from tests.plain_support import plain_cuts, plain_least, told
from tests.support import (
    NO_LISTS, ORDER, CostCase, few_counts, five_thousand_lower_sets, is_turned, many_lines, orders_of, small_orders,
    some_counts, some_orders, turned_sets,
)

BIG = 10 ** 30
ORDERS = small_orders()[::3] + some_orders(8, 5, 6) + [standard(3), bent(), stacked([2, 1, 3]), antichain(5)]
NO_INTEGERS = (None, True, False, "3", 3.0, (3,), [3])


def plain_separates(order):
    """All tuples of two separate steps, ascending."""
    steps = order.steps_told()
    return sorted((u, v, s, t) for u, v in steps for s, t in steps
                  if not order.is_below(u, t) and not order.is_below(s, v))


class SeparateTest(CostCase):
    def test_by_their_words(self):
        for order in small_orders() + ORDERS + [crown(4, reach=1), many_lines(), chain(4) * chain(4), standard(8)]:
            found = plain_separates(order)
            self.gives(found[0] if found else None, separate_steps, order)

    def test_exactly_if_each_cut_has_its_line(self):
        # [115]
        for order in ORDERS:
            lines = [cut_line(order, chosen) for many in range(order.size + 1)
                     for chosen in combinations(range(order.size), many)]
            self.assertEqual(separate_steps(order) is None, None not in lines)

    def test_separate_steps_cost_more(self):
        # [115]
        for order in small_orders() + some_orders(10, 5, 6) + [many_lines()]:
            found = separate_steps(order)
            if found is not None:
                u, v, s, t = found
                self.assertIsNone(cut_line(order, (u, s)))
                ones = Counts([(u, t, 1), (s, v, 1)])
                self.assertEqual([cut_cost(order, ones), cost(order, ones)], [(1, 1), (2, 1)])
                self.assertEqual([cut_worth(order, ones)[0], worth(order, ones)], [2, 1])

    def test_without_separate_steps(self):
        # [115]
        for order in [order for order in small_orders()[::2] + ORDERS + some_orders(30, 5, 6)
                      if separate_steps(order) is None]:
            for tolls in few_counts(order, 2, 8, 4) + few_counts(order, 1, 20, 1):
                self.assertTrue(is_at_most(cost(order, tolls), cut_cost(order, tolls)))
                self.assertGreaterEqual(worth(order, tolls), cut_worth(order, tolls)[0])
            if order.size >= 2:
                self.assertTrue(is_at_most(full_cost(order), cut_share(order.size)))

    def test_made_orders(self):
        # [116]
        free = [order for order in small_orders()[::5] + [stacked([2, 3]), chain(4), antichain(4)]
                if separate_steps(order) is None]
        for one in free:
            self.assertIsNone(separate_steps(~one))
            for x in range(one.size - 1):
                self.assertIsNone(separate_steps(one.on([place for place in range(one.size) if place != x])))
            for other in free[::3]:
                self.assertIsNone(separate_steps(one >> other))

    def test_put_ins(self):
        parts = [chain(1), antichain(2), chain(2), stacked([1, 2]), Order(4, [(0, 1), (2, 3)])]
        for order in orders_of(2) + orders_of(3)[::2]:
            for shift in range(len(parts)):
                for step in (1, 2, 4):
                    chosen = [parts[(shift + step * x) % len(parts)] for x in range(order.size)]
                    self.put(order, chosen)

    def put(self, order, parts):
        fine = separate_steps(order) is None and all(separate_steps(part) is None for part in parts)
        for x, part in enumerate(parts):
            if part.steps_told():
                others = [y for y in range(order.size) if order.are_open(x, y)]
                fine = fine and not any(order.is_below(y, z) for y in others for z in others)
                fine = fine and not any(parts[y].steps_told() for y in others)
        self.assertEqual(separate_steps(put_in(order, parts)) is None, fine)

    def test_ties(self):
        # [116]
        seen = 0
        for order in small_orders()[::2] + some_orders(20, 5, 6):
            if separate_steps(order) is None:
                for u, v in open_pairs(order):
                    made = tied(order, (u, v))
                    found = separate_steps(made)
                    if found is not None:
                        seen += 1
                        a, b, c, d = found
                        ones = Counts([(a, d, 1), (c, b, 1)])
                        self.assertEqual([cost(order, ones), cost(made, ones)], [(1, 1), (2, 1)])
        self.assertGreater(seen, 20)


class CutTest(CostCase):
    def test_lots_and_lines(self):
        for order in ORDERS:
            sets = turned_sets(order)
            for chosen, turned in plain_cuts(order):
                lot = self.gives(tuple(sorted(turned)), cut_lot, order, chosen[::-1])
                line = self.told(cut_line, order, list(chosen))
                self.assertEqual(line is not None, is_turned(lot, sets))
                if line is not None:
                    self.assertTrue(all(line.index(x) > line.index(y) for x, y in lot))
                    self.assertTrue(all(line.index(low) < line.index(high) for low, high in order.steps_told()))

    def test_edges(self):
        self.gives((), cut_lot, chain(1), [0])
        self.gives((), cut_lot, antichain(16), ())
        self.gives((), cut_lot, antichain(16), tuple(range(16)))
        self.gives(((1, 0),), cut_lot, chain(2), [1])
        self.gives((), cut_lot, chain(2), [0])
        self.gives(None, cut_line, Order(4, [(0, 1), (2, 3)]), (0, 2))
        self.assertEqual(len(cut_lot(antichain(16), tuple(range(8)))), 64)
        self.assertEqual(cut_line(antichain(16), tuple(range(8)))[:8], tuple(range(8, 16)))

    def test_refusals(self):
        for call in (cut_lot, cut_line):
            for value in NO_LISTS:
                self.fails(BadSet(-1), call, ORDER, value)
            for value, place in (((0, 4), 1), ((-1,), 0), ([1, 1], 1), ((True,), 0), ((0, None), 1)):
                self.fails(BadSet(place), call, ORDER, value)


class CutCostTest(CostCase):
    def cut(self, order, tolls):
        """The cut cost from both sides: weights on cuts that pay, found plainly, and the paper."""
        cuts = plain_cuts(order)
        value = self.told(cut_cost, order, tolls)
        self.fraction(value)
        self.assertEqual(value, told(plain_least([turned for _, turned in cuts], tolls)))
        paper = self.told(cut_paper, order, tolls)
        self.assertIs(type(paper), Paper)
        self.assertEqual(paper.value_at(tolls), value)
        self.assertTrue(all(tolls[x, y] and number >= 1 for x, y, number in paper))
        for _, turned in cuts:
            self.assertLessEqual(sum(paper.counts[pair] for pair in turned), paper.bottom)
        greatest = tolls.greatest_count()
        self.assertTrue(is_at_most((greatest, 1), value) and is_at_most(value, (4 * greatest, 1)))

    def test_both_sides(self):
        for order in ORDERS:
            for tolls in few_counts(order, 2, 5, 4) + few_counts(order, 1, 12, 2) + [Counts()]:
                self.cut(order, tolls)

    def test_sure_pairs_are_cut_too(self):
        self.cut(chain(4), Counts([(1, 0, 2), (2, 1, 3), (3, 2, 1)]))
        self.gives((5, 1), cut_cost, chain(3), Counts([(1, 0, 2), (2, 1, 3)]))
        self.assertEqual(cost(chain(3), Counts([(1, 0, 2), (2, 1, 3)])), (3, 1))

    def test_worths(self):
        # [114]
        for order in ORDERS:
            cuts = plain_cuts(order)
            for weights in some_counts(order, 2, 4) + few_counts(order, 2, 3, 1) + [Counts()]:
                sums = [(sum(weights[pair] for pair in turned), chosen) for chosen, turned in cuts]
                greatest = max(number for number, _ in sums)
                self.gives((greatest, [chosen for number, chosen in sums if number == greatest][0]),
                           cut_worth, order, weights)
                for tolls in few_counts(order, 2, 6, 3):
                    top, bottom = cut_cost(order, tolls)
                    self.assertLessEqual(tolls.product_sum(weights) * bottom, top * greatest)

    def test_by_hand(self):
        order = Order(4, [(0, 1), (2, 3)])
        tolls = Counts([(0, 3, 1), (2, 1, 1)])
        self.assertEqual((separate_steps(order), cut_line(order, (0, 2)), cut_cost(order, tolls), cost(order, tolls),
                          cut_share(5)), ((0, 1, 2, 3), None, (1, 1), (2, 1), (10, 3)))
        self.gives((0, ()), cut_worth, order, Counts())
        self.gives((0, 1), cut_cost, chain(1), Counts())
        self.gives(Paper(1, Counts()), cut_paper, chain(1), Counts())
        # Of {3} and {3, 2} and so on the smallest set is told, of those of one size the least.
        self.gives((5, (3,)), cut_worth, antichain(5), Counts([(3, 0, 5)]))
        self.gives((5, (1,)), cut_worth, antichain(5), Counts([(3, 0, 5), (1, 0, 5), (0, 3, 5)][1:2]))
        self.gives((5, (0,)), cut_worth, antichain(3), Counts([(0, 1, 5), (1, 2, 5)]))
        self.gives((10 ** 28 + 1, (0, 2)), cut_worth, antichain(3), Counts([(0, 1, 10 ** 28), (2, 1, 1)]))

    def test_sixteen_places(self):
        dice = random.Random("cuts")
        for order in (antichain(16), many_lines(), five_thousand_lower_sets(), standard(8), chain(16)):
            for most in (1, 3, BIG):
                for tolls in few_counts(order, 1, 30, most):
                    value = self.told(cut_cost, order, tolls)
                    paper = self.told(cut_paper, order, tolls)
                    self.assertEqual(paper.value_at(tolls), value)
                    # By the paper no cut turns more than the bottom, so the cost cannot be less than the value.
                    number, chosen = cut_worth(order, paper.counts)
                    self.assertEqual(number, paper.bottom)
                    self.assertEqual(sum(paper.counts[pair] for pair in cut_lot(order, chosen)), number)
                    self.assertTrue(is_at_most((tolls.greatest_count(), 1), value))
            weights = Counts([(x, y, dice.randint(0, BIG)) for x, y in all_pairs(order)])
            number, chosen = self.told(cut_worth, order, weights)
            self.assertEqual(sum(weights[pair] for pair in cut_lot(order, chosen)), number)
            for _ in range(50):
                other = dice.sample(range(order.size), dice.randint(0, order.size))
                self.assertLessEqual(sum(weights[pair] for pair in cut_lot(order, other)), number)
        # All cuts in the middle turn the same weight; the first one is told.
        self.gives((64, tuple(range(8))), cut_worth, antichain(16), Counts.ones(antichain(16)))

    def test_all_pairs_cost_the_share_of_cuts(self):
        # Of n places a cut turns at most h * (n - h) of the n * (n - 1) pairs of an antichain.
        for size in (2, 3, 4, 5, 6):
            self.assertEqual(cut_cost(antichain(size), Counts.ones(antichain(size))), cut_share(size))

    def test_bounds(self):
        for order in (antichain(7), antichain(16), chain(16)):
            pairs = all_pairs(order)
            for call in (cut_cost, cut_paper):
                self.told(call, order, Counts.at(pairs[:30]))
                self.fails(TooMany(30), call, order, Counts.at(pairs[:31]))
            self.told(cut_worth, order, Counts.at(pairs))

    def test_refusals(self):
        for call in (cut_cost, cut_paper, cut_worth):
            self.fails(Unfit(0, 2), call, ORDER, Counts([(0, 2, 1), (1, 2, 1), (3, 0, 1)]))
            self.fails(Unfit(6, 7), call, antichain(7), Counts.ones(antichain(7)) + Counts([(6, 7, 1)]))


class CutShareTest(CostCase):
    def test_by_its_words(self):
        for size in range(2, 61):
            half = size // 2
            share = self.gives(lowest(size * (size - 1), half * (size - half)), cut_share, size)
            self.assertTrue(is_at_most(share, (4 * 60 - 1, 60)))
        self.assertEqual([cut_share(size) for size in (2, 3, 4, 5, 60)],
                         [(2, 1), (3, 1), (3, 1), (10, 3), (59, 15)])

    def test_refusals(self):
        for wrong in (1, 0, -1, 61, BIG) + NO_INTEGERS:
            self.fails(BadNumber("size"), cut_share, wrong)


if __name__ == "__main__":
    unittest.main()
