"""linemix/between.py, with [136] to [140]."""

import random
import unittest
from fractions import Fraction
from itertools import combinations

from linemix.between import cost_ends, is_settled, orders_between, three_worlds, worth_ends
from linemix.costs import best_mix, best_paper, cost
from linemix.counts import Counts, kept_on
from linemix.errors import BadPlace, NotHeld, NotOpen, OtherSize, TooMany, Unfit
from linemix.levels import level_cost
from linemix.numbers import is_at_most
from linemix.orders import Order
from linemix.pairs import all_pairs, open_pairs, sure_pairs
from linemix.rises import greatest_share
from linemix.shapes import antichain, bent, chain, stacked, standard
from linemix.ties import single_ties, tie_path, tied, untied
from linemix.worths import worth
from tests.support import (
    ORDER, CostCase, few_counts, five_thousand_lower_sets, is_order_of, many_lines, orders_of, small_orders,
    some_orders,
)

BIG = 10 ** 28


def some_couples():
    """The same couples of a low order and one that holds it on every run."""
    dice = random.Random("between")
    found = [(order, order) for order in small_orders()[::40]]
    for high in orders_of(3)[::3] + orders_of(4)[::14] + some_orders(6, 5, 5) + [bent(), standard(3), chain(4)]:
        low = high
        for _ in range(dice.randint(0, min(7, len(high.steps_told())))):
            u, v = dice.choice(low.next_steps())
            low = untied(low, u, v)
        found.append((low, high))
    return found


COUPLES = some_couples()


class EndsTest(CostCase):
    def test_by_their_words(self):
        # [137]
        for low, high in COUPLES:
            for tolls in few_counts(high, 2, 5, 4) + few_counts(high, 1, 3, BIG) + [Counts()]:
                self.assertEqual(self.told(cost_ends, low, high, tolls), (cost(low, tolls), cost(high, tolls)))
                self.assertEqual(self.told(worth_ends, low, high, tolls), (worth(high, tolls), worth(low, tolls)))
                self.gives(cost(low, tolls) == cost(high, tolls), is_settled, low, high, tolls)

    def test_orders_between_lie_between(self):
        # [137], [139]
        for low, high in COUPLES:
            between = orders_between(low, high)
            for tolls in few_counts(high, 1, 5, 3):
                (least, most), (poor, rich) = cost_ends(low, high, tolls), worth_ends(low, high, tolls)
                mix, paper = best_mix(high, tolls), best_paper(low, tolls)
                values = set()
                for order in between[::max(1, len(between) // 10)] + between[-1:]:
                    value = cost(order, tolls)
                    values.add(value)
                    self.assertTrue(is_at_most(least, value) and is_at_most(value, most))
                    self.assertTrue(poor <= worth(order, tolls) <= rich)
                    self.lines_pay(order, mix, tolls)
                    self.assertTrue(paper.holds_in_order(order))
                self.assertEqual(is_settled(low, high, tolls), least == most)
                self.assertTrue(len(values) == 1 or least != most)

    def test_step_by_step(self):
        # [138]
        for low, high in COUPLES:
            for tolls in few_counts(high, 2, 4, 3):
                reached = low
                value = cost(low, tolls)
                for u, v in tie_path(low, high):
                    grown = tied(reached, (u, v))
                    more = cost(grown, tolls)
                    share = greatest_share(reached, tolls, (v, u))
                    self.assertTrue(is_at_most(value, more))
                    self.assertLessEqual(Fraction(*more), 2 * Fraction(*value) - Fraction(*share))
                    reached, value = grown, more
                self.assertEqual((reached, value), (high, cost_ends(low, high, tolls)[1]))

    def test_levels_are_settled(self):
        # [139]
        for high in (stacked([2, 1, 3]), stacked([3, 2]), stacked([1, 4]), antichain(4), chain(5)):
            for low in (antichain(high.size), orders_between(tied_down(high), high)[0]):
                for tolls in few_counts(high, 3, 6, 3):
                    opened = Counts([(x, y, toll) for x, y, toll in tolls if high.are_open(x, y)])
                    self.gives(True, is_settled, low, high, opened)
                    self.assertEqual(cost_ends(low, high, opened), (level_cost(high, opened),) * 2)

    def test_by_hand(self):
        tolls = Counts([(1, 0, 2), (2, 1, 1)])
        self.gives(((2, 1), (2, 1)), cost_ends, antichain(3), chain(3), tolls)
        self.gives((3, 3), worth_ends, antichain(3), chain(3), tolls)
        self.gives(True, is_settled, antichain(3), chain(3), tolls)
        more = Counts([(1, 0, 2), (2, 1, 1), (2, 0, 5), (0, 2, 3)])
        low, high = Order(3), Order(3, [(0, 1)])
        self.gives(((8, 1), (8, 1)), cost_ends, low, high, more)
        self.gives(False, is_settled, antichain(3), Order(3, [(0, 2)]), Counts([(0, 1, 1), (1, 2, 1)]))
        self.gives(((1, 1), (2, 1)), cost_ends, antichain(3), Order(3, [(0, 2)]), Counts([(0, 1, 1), (1, 2, 1)]))
        self.gives((1, 2), worth_ends, antichain(3), Order(3, [(0, 2)]), Counts([(0, 1, 1), (1, 2, 1)]))

    def test_refusals_in_their_order(self):
        for call in (cost_ends, worth_ends, is_settled):
            self.fails(OtherSize(3), call, chain(2), chain(3), Counts([(0, 0, 1)]))
            self.fails(OtherSize(2), call, chain(3), antichain(2), Counts([(0, 0, 1)]))
            self.fails(NotHeld(0, 2), call, chain(3), Order(3, [(0, 1)]), Counts([(0, 0, 1)]))
            self.fails(NotHeld(1, 2), call, Order(3, [(0, 1), (1, 2)]), Order(3, [(0, 1), (0, 2)]), Counts([(0, 0, 1)]))
            self.fails(Unfit(0, 1), call, antichain(2), chain(2), Counts([(0, 1, 1), (1, 1, 1)]))
            self.told(call, chain(2), chain(2), Counts([(1, 0, 1)]))

    def test_bounds(self):
        low, high = antichain(7), Order(7, [(0, 1)])
        pairs = all_pairs(high)
        for call in (cost_ends, is_settled):
            self.told(call, low, high, Counts.at(pairs[:30]))
            self.fails(TooMany(30), call, low, high, Counts.at(pairs[:31]))
            # The low order meets the bounds, though the high one would not.
            self.fails(TooMany(5000), call, antichain(13), chain(13), Counts())
            self.fails(TooMany(30), call, antichain(13), chain(13), Counts.at(sure_pairs(chain(13))[:31]))
        self.fails(TooMany(5000), worth_ends, antichain(13), chain(13), Counts())
        self.told(worth_ends, low, high, Counts.at(pairs))
        order = five_thousand_lower_sets()
        self.told(worth_ends, order, order, Counts())


def tied_down(order):
    """The order without one next step."""
    steps = order.next_steps()
    return untied(order, *steps[0]) if steps else order


class OrdersBetweenTest(CostCase):
    def plain(self, low, high):
        free = [step for step in high.steps_told() if step not in low.steps_told()]
        sets = [low.steps_told() + chosen for many in range(len(free) + 1) for chosen in combinations(free, many)]
        return [Order(low.size, steps) for steps in sets if is_order_of(low.size, steps)]

    def test_all_sets_of_steps(self):
        # [136]
        for low, high in COUPLES:
            found = self.told(orders_between, low, high)
            wanted = self.plain(low, high)
            self.assertEqual(found, sorted(wanted, key=lambda order: (len(order.steps_told()), order.steps_told())))
            self.assertTrue(found[0] == low and found[-1] == high)
            for order in found:
                self.assertTrue(order.holds(low) and high.holds(order))
                if order != high:
                    self.assertTrue(any(tied(order, tie) in found for tie in single_ties(order)
                                        if tie in high.steps_told()))
                if order != low:
                    self.assertTrue(any(untied(order, u, v) in found for u, v in order.next_steps()
                                        if (u, v) not in low.steps_told()))

    def test_numbers(self):
        self.assertEqual(len(self.told(orders_between, antichain(3), chain(3))), 7)
        # All orders of four places in which the numbers go up along the steps.
        self.assertEqual(len(orders_between(antichain(4), chain(4))), 40)
        self.gives([ORDER], orders_between, ORDER, ORDER)
        self.gives([chain(1)], orders_between, chain(1), chain(1))

    def test_twelve_and_thirteen_steps(self):
        # Places in two rows: each set of the steps is an order.
        high = Order(16, [(x, y) for x in (0, 1, 2) for y in (8, 9, 10, 11)])
        found = self.told(orders_between, antichain(16), high)
        self.assertEqual(len(found), 2 ** 12)
        self.assertEqual([len(order.steps_told()) for order in found], sorted(len(order.steps_told()) for order in found))
        more = tied(high, (3, 8))
        self.fails(TooMany(12), orders_between, antichain(16), more)
        self.assertEqual(len(orders_between(Order(16, [(3, 8)]), more)), 2 ** 12)
        self.fails(TooMany(12), orders_between, antichain(16), chain(16))
        # The steps across are 12 squares; those of an order make up a corner of them.
        self.assertEqual(len(orders_between(chain(8) + chain(8), tied(chain(8) + chain(8), (2, 12)))), 35)

    def test_refusals_in_their_order(self):
        self.fails(OtherSize(3), orders_between, chain(2), chain(3))
        self.fails(NotHeld(0, 1), orders_between, chain(3), antichain(3))
        self.fails(NotHeld(14, 15), orders_between, Order(16, [(0, 1), (14, 15)]), chain(15) + chain(1))


class ThreeWorldsTest(CostCase):
    def test_by_their_words(self):
        # [140]
        for order in small_orders()[::9] + some_orders(6, 5, 6) + [bent(), standard(3), ORDER]:
            for x, y in open_pairs(order)[::3]:
                up, down = tied(order, (x, y)), tied(order, (y, x))
                for tolls in few_counts(order, 2, 6, 4) + few_counts(order, 1, 4, BIG):
                    kept = Counts([(a, b, toll) for a, b, toll in tolls
                                   if (a, b) in all_pairs(up) and (a, b) in all_pairs(down)])
                    costs = self.told(three_worlds, order, tolls, x, y)
                    self.assertEqual(costs, (cost(order, kept), cost(up, kept), cost(down, kept)))
                    f, first, second = [Fraction(*value) for value in costs]
                    self.assertTrue(f <= min(first, second) and first + second <= 3 * f)
                    back = Fraction(*greatest_share(order, kept, (y, x)))
                    over = Fraction(*greatest_share(order, kept, (x, y)))
                    self.assertTrue(first <= 2 * f - back and second <= 2 * f - over)

    def test_by_hand(self):
        tolls = Counts([(0, 1, 1), (1, 2, 1), (0, 2, 9), (2, 0, 7)])
        self.gives(((1, 1), (2, 1), (1, 1)), three_worlds, antichain(3), tolls, 0, 2)
        self.gives(((1, 1), (1, 1), (2, 1)), three_worlds, antichain(3), tolls, 2, 0)
        self.gives(((0, 1), (0, 1), (0, 1)), three_worlds, antichain(2), Counts.ones(antichain(2)), 0, 1)
        self.assertEqual(kept_on(antichain(3), tolls), tolls)

    def test_refusals_in_their_order(self):
        fit = Counts([(1, 0, 1)])
        self.fails(Unfit(0, 2), three_worlds, ORDER, Counts([(0, 2, 1)]), 9, 9)
        for wrong in (4, -1, True, False, None, "0"):
            self.fails(BadPlace("x"), three_worlds, ORDER, fit, wrong, wrong)
            self.fails(BadPlace("y"), three_worlds, ORDER, fit, 0, wrong)
        for x, y in ((0, 2), (2, 0), (0, 0), (3, 1)):
            self.fails(NotOpen(x, y), three_worlds, ORDER, fit, x, y)

    def test_bounds(self):
        order = antichain(7)
        many = Counts.at(all_pairs(order)[:31])
        self.fails(TooMany(30), three_worlds, order, many, 5, 6)
        # Neither (0, 1) nor (1, 0) is kept.
        self.assertEqual(len(three_worlds(order, many, 0, 1)), 3)
        self.fails(TooMany(5000), three_worlds, antichain(13), Counts(), 0, 1)
        self.assertEqual(len(three_worlds(many_lines(), Counts.ones(many_lines().on((0, 1, 2))), 0, 2)), 3)


if __name__ == "__main__":
    unittest.main()
