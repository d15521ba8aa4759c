"""linemix/means.py, with [126]."""

import random
import unittest
from fractions import Fraction

from linemix.bests import is_best_mix
from linemix.commons import flipped
from linemix.costs import best_mix, cost
from linemix.counts import Counts
from linemix.errors import BadPlace, NoLines, NoPairs, TooMany, Unfit
from linemix.lines import lines_of
from linemix.means import mean_ends, mean_mix, mean_place
from linemix.mixes import Mix
from linemix.numbers import is_at_most
from linemix.orders import Order
from linemix.pairs import open_pairs, sure_pairs
from linemix.rises import share_mix
from linemix.shapes import antichain, bent, chain, standard
from tests.plain_support import GREAT, plain_papers, told
from tests.support import (
    ORDER, CostCase, few_counts, five_thousand_lower_sets, many_lines, plain_lines, small_orders, some_orders,
)

BIG = 10 ** 28
ORDERS = small_orders()[::7] + some_orders(3, 5, 5) + [antichain(3), antichain(4), ORDER]
TOLLS = Counts([(1, 0, 1), (1, 2, 2), (2, 0, 1)])
NO_PLACES = (-1, True, False, None, "0", 1.0, (0,))


def some_tolls(order):
    """Tolls of few pairs, the same on every run: with equal, with unlike and with great numbers beside small ones."""
    found = few_counts(order, 1, 3, 1) + few_counts(order, 1, 4, 3) + few_counts(order, 1, 2, BIG)
    return [tolls for tolls in found if len(tolls)]


def plain_mean(order, tolls, x, sign):
    """The greatest (sign 1) or the least (sign -1) mean place of x in best mixes, by a look at all lines.

    A line costs a whole part, less or more by a little for its place of x: so of the cheapest mixes one is told.
    """
    value = plain_papers(order, list(tolls))
    near = plain_papers(order, list(tolls), lambda line: GREAT - sign * line.index(x))
    return 1 + sign * (GREAT * value - near) / value


class MeanPlaceTest(CostCase):
    def test_by_its_words(self):
        dice = random.Random("mean places")
        for order in ORDERS + [bent(), antichain(16), many_lines()]:
            lines = lines_of(order, first=20)
            for _ in range(4):
                mix = Mix(dice.randint(1, 9), [(dice.choice(lines), dice.randint(1, 9)) for _ in range(4)])
                total = sum(number for _, number in mix)
                means = []
                for x in range(order.size):
                    wanted = Fraction(sum(number * (line.index(x) + 1) for line, number in mix), total)
                    means.append(Fraction(*self.gives(told(wanted), mean_place, mix, x)))
                    over = sum((Fraction(*mix.share(x, y)) for y in range(order.size) if y != x), Fraction(0))
                    self.assertEqual(wanted, 1 + over / Fraction(*mix.total))
                self.assertEqual(sum(means), Fraction(order.size * (order.size + 1), 2))

    def test_refusals_in_their_order(self):
        self.fails(NoLines(), mean_place, Mix(3, ()), None)
        self.fails(NoLines(), mean_place, Mix(3, ()), 0)
        mix = Mix(2, [((1, 0, 2), 3)])
        for wrong in NO_PLACES + (3, 10 ** 30):
            self.fails(BadPlace("x"), mean_place, mix, wrong)


class MeanEndsTest(CostCase):
    def ended(self, order, tolls, x):
        ends = self.told(mean_ends, order, tolls, x)
        self.assertIs(type(ends), tuple)
        for low, value in ((True, ends[0]), (False, ends[1])):
            mix = self.told(mean_mix, order, tolls, x, least=low)
            self.lines_pay(order, mix, tolls)
            self.assertTrue(is_best_mix(order, tolls, mix))
            self.assertEqual(mean_place(mix, x), value)
        self.assertEqual(mean_mix(order, tolls, x), mean_mix(order, tolls, x, least=False))
        return ends

    def test_ends(self):
        # [126]
        for order in ORDERS:
            for tolls in some_tolls(order):
                mixes = [best_mix(order, tolls)] + [share_mix(order, tolls, pair) for pair in open_pairs(order)[:3]]
                for x in range(order.size):
                    low, high = self.ended(order, tolls, x)
                    self.assertEqual(high, told(plain_mean(order, tolls, x, 1)))
                    self.assertEqual(low, told(plain_mean(order, tolls, x, -1)))
                    for mix in mixes:
                        self.assertTrue(is_at_most(low, mean_place(mix, x)) and is_at_most(mean_place(mix, x), high))
                    other = mean_ends(~order, flipped(tolls), x)
                    self.assertEqual(Fraction(*low) + Fraction(*other[1]), order.size + 1)

    def test_by_hand(self):
        self.gives(((5, 2), (3, 1)), mean_ends, antichain(3), TOLLS, 1)
        self.gives(((2, 1), (2, 1)), mean_ends, chain(2), Counts([(1, 0, 3)]), 1)
        self.gives(((3, 2), (3, 2)), mean_ends, antichain(2), Counts([(1, 0, 3), (0, 1, 3)]), 0)
        self.gives(((2, 1), (2, 1)), mean_ends, antichain(2), Counts([(1, 0, 3)]), 1)
        # A toll elsewhere leaves the place free.
        self.gives(((1, 1), (3, 1)), mean_ends, antichain(3), Counts([(1, 0, 3)]), 2)
        self.gives(((1, 1), (12, 1)), mean_ends, antichain(12), Counts([(1, 0, 3)]), 5)

    def test_eight_tolls(self):
        for order in (many_lines(), five_thousand_lower_sets(), antichain(12), antichain(5), standard(3)):
            for tolls in few_counts(order, 2, 8, 3) + few_counts(order, 1, 8, 10 ** 30) + few_counts(order, 1, 8, 1):
                for x in (0, order.size - 1):
                    low, high = self.ended(order, tolls, x)
                    self.assertTrue(is_at_most((1, 1), low) and is_at_most(low, high))
                    self.assertTrue(is_at_most(high, (order.size, 1)))
                    if order.size <= 5:
                        self.assertEqual(high, told(plain_mean(order, tolls, x, 1)))
                        self.assertEqual(low, told(plain_mean(order, tolls, x, -1)))

    def test_great_and_small_tolls(self):
        order = antichain(4)
        for tolls in (Counts([(1, 0, 10 ** 28), (2, 1, 1), (0, 2, 10 ** 12), (3, 0, 1)]),
                      Counts([(1, 0, 10 ** 12), (0, 1, 10 ** 12), (2, 3, 1), (3, 2, 1)]),
                      Counts([(0, 1, BIG), (1, 2, BIG + 1), (2, 0, BIG - 1), (3, 1, 1), (1, 3, 10 ** 12)])):
            for x in range(4):
                low, high = self.ended(order, tolls, x)
                self.assertEqual([low, high], [told(plain_mean(order, tolls, x, -1)), told(plain_mean(order, tolls, x, 1))])
            self.assertTrue(is_at_most((tolls.greatest_count(), 1), cost(order, tolls)))

    def test_refusals_in_their_order(self):
        fit = Counts([(1, 0, 1)])
        for call in (mean_mix, mean_ends):
            self.fails(Unfit(0, 2), call, ORDER, Counts([(0, 2, 1), (1, 2, 1)]), None)
            for wrong in NO_PLACES + (4, 10 ** 30):
                self.fails(BadPlace("x"), call, ORDER, fit, wrong)
                self.fails(BadPlace("x"), call, ORDER, Counts(), wrong)
            self.fails(NoPairs(), call, ORDER, Counts(), 0)
            self.fails(NoPairs(), call, antichain(16), Counts(), 0)
            for order in (antichain(4), chain(16), many_lines()):
                pairs = (sure_pairs(order)[:4] + open_pairs(order) + sure_pairs(order)[4:])[:9]
                self.told(call, order, Counts.at(pairs[:8]), 0)
                self.fails(TooMany(8), call, order, Counts.at(pairs), 0)
                self.fails(BadPlace("x"), call, order, Counts.at(pairs), 16)
            for order in (antichain(13), five_thousand_lower_sets() >> chain(1), Order(14, [(0, 1)])):
                pairs = open_pairs(order)
                self.fails(TooMany(5000), call, order, Counts.at(pairs[:8]), 0)
                self.fails(TooMany(8), call, order, Counts.at(pairs[:9]), 0)
        with self.assertRaises(TypeError):
            mean_mix(ORDER, fit, 0, True)

    def test_all_lines_of_small_orders(self):
        # Each place of a line of a best mix is met by the ends.
        for order in small_orders()[::13]:
            for line in plain_lines(order)[:6]:
                turned = [(x, y) for x in range(order.size) for y in range(order.size) if line.index(x) > line.index(y)]
                tolls = Counts.at(turned[:8])
                if len(tolls):
                    for x in range(order.size):
                        low, high = mean_ends(order, tolls, x)
                        self.assertTrue(is_at_most(low, (line.index(x) + 1, 1)))
                        self.assertTrue(is_at_most((line.index(x) + 1, 1), high))


if __name__ == "__main__":
    unittest.main()
