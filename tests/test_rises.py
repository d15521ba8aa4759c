"""linemix/rises.py, with [123] to [125]."""

import unittest
from fractions import Fraction

from linemix.bests import is_best_mix, is_best_paper
from linemix.costs import best_mix, best_paper, cost
from linemix.counts import Counts
from linemix.endless import beyond, endless, tolls_against
from linemix.errors import BadNumber, BadPair, TooMany, Unfit
from linemix.numbers import is_at_most
from linemix.orders import Order
from linemix.pairs import against, open_pairs, sure_pairs
from linemix.rises import cost_at, critical_toll, drop, greatest_share, least_share, rise, share_mix
from linemix.shapes import antichain, chain, standard
from tests.plain_support import plain_papers, plain_shift, told
from tests.support import (
    NO_PAIRS, ORDER, CostCase, few_counts, five_thousand_lower_sets, many_lines, small_orders, some_orders,
)

BIG = 10 ** 28
ORDERS = small_orders()[::6] + some_orders(3, 5, 5) + [antichain(3), antichain(4), ORDER]
TOLLS = Counts([(1, 0, 1), (1, 2, 2), (2, 0, 1)])
CALLS = (rise, greatest_share, least_share, critical_toll, share_mix)


def some_tolls(order):
    """Tolls of few pairs, the same on every run: with equal, with unlike and with great numbers beside small ones."""
    return few_counts(order, 1, 3, 1) + few_counts(order, 1, 4, 3) + few_counts(order, 1, 2, BIG) + [Counts()]


def cases():
    """Orders with tolls and some of their open pairs, tolled and untolled ones."""
    for order in ORDERS:
        for tolls in some_tolls(order):
            tolled = [(x, y) for x, y, _ in tolls if order.are_open(x, y)]
            others = [pair for pair in open_pairs(order) if pair not in tolled]
            for pair in tolled[:2] + others[:2]:
                yield order, tolls, pair


def value_of(fraction):
    return Fraction(*fraction)


class RiseTest(CostCase):
    def test_rise_and_drop(self):
        for order, tolls, pair in cases():
            value = self.told(rise, order, tolls, pair)
            self.fraction(value)
            self.assertEqual(value, told(plain_shift(order, tolls, {pair: 1})))
            self.reached(order, tolls, pair, 1, value)
            if tolls[pair]:
                less = self.told(drop, order, tolls, list(pair))
                self.assertEqual(less, told(-plain_shift(order, tolls, {pair: -1})))
                self.reached(order, tolls, pair, -1, less)
                self.assertTrue(is_at_most((0, 1), less) and is_at_most(less, value) and is_at_most(value, (1, 1)))
            else:
                self.fails(BadPair(-1), drop, order, tolls, pair)

    def reached(self, order, tolls, pair, step, value):
        """Some best paper has just this weight, the greatest or the least one, at the pair."""
        near = (tolls * 10 ** 9).with_count(*pair, tolls[pair] * 10 ** 9 + step)
        paper = best_paper(order, near)
        self.assertTrue(is_best_paper(order, tolls, paper))
        self.assertEqual(told(Fraction(paper.counts[pair], paper.bottom)), value)
        other = best_paper(order, tolls)
        weight = told(Fraction(other.counts[pair], other.bottom))
        self.assertTrue(is_at_most(weight, value) if step > 0 else is_at_most(value, weight))

    def test_cost_at(self):
        # [123]
        for order, tolls, pair in list(cases())[::2]:
            now = tolls[pair]
            numbers = sorted({0, 1, 2, 3, 4, now, now + 1, now + 2, max(0, now - 1)})
            costs = {}
            for toll in numbers:
                costs[toll] = self.told(cost_at, order, tolls, pair, toll)
                self.assertEqual(costs[toll], cost(order, tolls.with_count(*pair, toll)))
            values = {toll: value_of(costs[toll]) for toll in numbers}
            for toll in numbers:
                if toll + 1 in values:
                    self.assertTrue(0 <= values[toll + 1] - values[toll] <= 1)
                    if toll + 2 in values:
                        self.assertLessEqual(2 * values[toll + 1], values[toll] + values[toll + 2])
            up = value_of(rise(order, tolls, pair))
            down = value_of(drop(order, tolls, pair)) if now else None
            for toll in numbers:
                if toll > now:
                    self.assertGreaterEqual(values[toll], values[now] + (toll - now) * up)
                if toll < now:
                    self.assertGreaterEqual(values[toll], values[now] - (now - toll) * down)

    def test_rise_is_the_least_change(self):
        # The cost rises at just this rate for a while: so no greater number would do.
        for order, tolls, pair in list(cases())[::3]:
            for many in (10 ** 8, 10 ** 11):
                more = value_of(cost(order, (tolls * many).with_count(*pair, tolls[pair] * many + 1)))
                self.assertEqual(more - many * value_of(cost(order, tolls)), value_of(rise(order, tolls, pair)))

    def test_by_hand(self):
        order = antichain(3)
        self.assertEqual([cost_at(order, TOLLS, (0, 1), 1), cost_at(order, TOLLS, (0, 1), 2),
                          critical_toll(order, TOLLS, (0, 1))], [(2, 1), (3, 1), (1, 1)])
        self.assertEqual([rise(order, TOLLS, (1, 2)), rise(order, TOLLS, (1, 0)), greatest_share(order, TOLLS, (1, 0))],
                         [(1, 1), (0, 1), (2, 1)])
        self.gives((0, 1), rise, order, Counts([(0, 1, 5), (2, 1, 4)]), (2, 1))
        self.gives((1, 2), rise, order, Counts([(1, 0, 1), (2, 1, 1), (0, 2, 1)]), (1, 0))
        self.gives((1, 1), rise, order, Counts(), (1, 0))
        self.gives((0, 1), cost_at, order, Counts(), (1, 0), 0)
        self.gives((BIG, 1), cost_at, order, TOLLS, [1, 2], BIG)


class CriticalTest(CostCase):
    def test_critical_tolls(self):
        # [124]
        for order, tolls, pair in cases():
            critical = self.told(critical_toll, order, tolls, pair)
            self.fraction(critical)
            none = tolls.with_count(*pair, 0)
            self.assertEqual(critical, greatest_share(order, none, pair))
            top, bottom = critical
            base = value_of(cost(order, none))
            for scale in (1, 10 ** 9):
                just = cost(order, (none * (bottom * scale)).with_count(*pair, top * scale))
                self.assertEqual(value_of(just), base * bottom * scale)
                more = cost(order, (none * (bottom * scale)).with_count(*pair, top * scale + 1))
                self.assertGreater(value_of(more), base * bottom * scale)
            for toll in {0, 1, 2, top // bottom, top // bottom + 1, tolls[pair]}:
                same = cost_at(order, tolls, pair, toll) == cost_at(order, tolls, pair, 0)
                self.assertEqual(same, toll * bottom <= top)

    def test_beyond(self):
        # [124]
        for order, tolls, pair in cases():
            if len(tolls) > 4:
                continue
            high, rest = endless(order, tolls, pair)
            least = -(-high[0] // high[1])
            for toll in (least, least + 1, least + BIG):
                self.assertEqual(value_of(cost_at(order, tolls, pair, toll)), toll + value_of(rest))
                self.assertEqual(rise(order, tolls.with_count(*pair, toll), pair), (1, 1))

    def test_far_beyond(self):
        # [124]: above h all best papers and mixes agree at the pair.
        for order, tolls, pair in list(cases())[::2]:
            high = beyond(order, tolls, pair)
            grown = tolls.with_count(*pair, high[0] // high[1] + 1)
            if len(grown) > 8:
                continue
            toll = (grown[pair], 1)
            self.assertEqual([rise(order, grown, pair), drop(order, grown, pair)], [(1, 1), (1, 1)])
            self.assertEqual([greatest_share(order, grown, pair), least_share(order, grown, pair)], [toll, toll])
            paper = best_paper(order, grown)
            self.assertEqual(paper.counts[pair], paper.bottom)
            for x, y, _ in paper:
                self.assertTrue((x, y) == pair or against(order, (x, y), pair))
            rest = tolls_against(order, grown, pair)
            self.assertEqual(Fraction(paper.counts.product_sum(rest), paper.bottom), value_of(cost(order, rest)))
            for x, y, _ in grown:
                if (x, y) != pair and not against(order, (x, y), pair):
                    self.assertEqual(plain_shift(order, grown, {(x, y): 1}), 0)


class ShareTest(CostCase):
    def test_shares(self):
        # [125]
        for order, tolls, pair in cases():
            x, y = pair
            value = cost(order, tolls)
            most = self.told(greatest_share, order, tolls, pair)
            least = self.told(least_share, order, tolls, pair)
            row = [(tolls[pair], 1), least, most, value]
            for one, other in zip(row, row[1:]):
                self.assertTrue(is_at_most(one, other))
            self.assertEqual(value_of(least) + value_of(greatest_share(order, tolls, (y, x))), value_of(value))
            for low, share in ((False, most), (True, least)):
                mix = self.told(share_mix, order, tolls, pair, least=low)
                self.assertTrue(is_best_mix(order, tolls, mix))
                self.lines_pay(order, mix, tolls)
                self.assertEqual(mix.share(x, y) if len(tolls) else (0, 1), share)
            self.assertEqual(share_mix(order, tolls, pair), share_mix(order, tolls, list(pair), least=False))
            # No best mix has more: the share is between, and asking for more costs more.
            top, bottom = most
            more = (tolls * (bottom * 10 ** 9)).with_count(x, y, top * 10 ** 9 + 1)
            self.assertGreater(value_of(cost(order, more)), value_of(value) * bottom * 10 ** 9)
            share = best_mix(order, tolls).share(x, y) if len(tolls) else (0, 1)
            self.assertTrue(is_at_most(least, share) and is_at_most(share, most))

    def test_costs_by_all_lines(self):
        for order in ORDERS[::3]:
            for tolls in some_tolls(order):
                self.assertEqual(cost(order, tolls), told(plain_papers(order, list(tolls))))

    def test_no_toll(self):
        for order in (antichain(2), ORDER, antichain(16).on(tuple(range(12)))):
            self.gives((0, 1), greatest_share, order, Counts(), (0, 1))
            self.gives((0, 1), least_share, order, Counts(), (0, 1))
            self.gives((0, 1), critical_toll, order, Counts(), (0, 1))
            for low in (True, False):
                self.assertEqual(list(self.told(share_mix, order, Counts(), (0, 1), least=low)), [])

    def test_sure_pairs_tolled(self):
        order = chain(2) + chain(1)
        tolls = Counts([(1, 0, 5), (2, 0, 1)])
        self.gives((5, 1), greatest_share, order, tolls, (2, 0))
        self.gives((1, 1), least_share, order, tolls, (2, 0))
        self.gives((4, 1), greatest_share, order, tolls, (0, 2))
        self.gives((5, 1), critical_toll, order, tolls, (2, 0))
        self.gives((0, 1), rise, order, tolls, (2, 0))

    def test_many_lines(self):
        for order in (many_lines(), five_thousand_lower_sets(), antichain(12), standard(8)):
            for tolls in few_counts(order, 2, 8, 3) + few_counts(order, 1, 8, 10 ** 30):
                for x, y in [(x, y) for x, y, _ in tolls if order.are_open(x, y)][:2]:
                    most, least = greatest_share(order, tolls, (x, y)), least_share(order, tolls, (x, y))
                    self.assertEqual(share_mix(order, tolls, (x, y)).share(x, y), most)
                    self.assertEqual(share_mix(order, tolls, (x, y), least=True).share(x, y), least)
                    self.assertTrue(is_at_most(drop(order, tolls, (x, y)), rise(order, tolls, (x, y))))


class RefusalsTest(CostCase):
    def test_in_their_order(self):
        unfit, fit = Counts([(0, 2, 1), (1, 2, 1)]), Counts([(1, 0, 1)])
        for call in CALLS + (drop,):
            self.fails(Unfit(0, 2), call, ORDER, unfit, None)
            for value in NO_PAIRS + ((2, 0), (3, 1)):
                self.fails(BadPair(-1), call, ORDER, fit, value)
        self.fails(BadPair(-1), drop, ORDER, fit, (0, 1))
        self.fails(Unfit(0, 2), cost_at, ORDER, unfit, None, None)
        for value in NO_PAIRS + ((2, 0), (3, 1)):
            self.fails(BadPair(-1), cost_at, ORDER, fit, value, None)
        for value in (-1, None, True, False, "1", 1.0, (1,)):
            self.fails(BadNumber("toll"), cost_at, ORDER, fit, (1, 0), value)

    def test_bounds_come_last(self):
        for order in (antichain(4), many_lines(), Order(9, [(0, 1)])):
            pairs = open_pairs(order)[:9]
            for call in CALLS + (drop,):
                self.told(call, order, Counts.at(pairs[:8]), pairs[0])
                self.fails(TooMany(8), call, order, Counts.at(pairs), pairs[0])
                self.fails(BadPair(-1), call, order, Counts.at(pairs), None)
            for call in CALLS:
                # The pair itself may be a ninth one.
                self.told(call, order, Counts.at(pairs[:8]), pairs[8])
            self.fails(BadPair(-1), drop, order, Counts.at(pairs), (pairs[0][1], pairs[0][0], 0))
            self.fails(TooMany(8), cost_at, order, Counts.at(pairs), pairs[0], 0)
            self.fails(BadNumber("toll"), cost_at, order, Counts.at(pairs), pairs[0], -1)
            self.told(cost_at, order, Counts.at(pairs[:8]), pairs[8], 5)
        order = chain(5) + chain(1)
        self.fails(TooMany(8), rise, order, Counts.at(sure_pairs(order)[:9]), (5, 0))
        for order in (antichain(13), five_thousand_lower_sets() >> chain(1), Order(14, [(0, 1)])):
            pair = open_pairs(order)[0]
            for call in CALLS:
                self.fails(TooMany(5000), call, order, Counts(), pair)
            self.fails(TooMany(5000), drop, order, Counts.at([pair]), pair)
            self.fails(TooMany(5000), cost_at, order, Counts(), pair, 0)

    def test_keywords(self):
        with self.assertRaises(TypeError):
            share_mix(ORDER, Counts(), (0, 1), True)


if __name__ == "__main__":
    unittest.main()
