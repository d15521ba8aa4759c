"""linemix/bests.py, with [121] and [122]."""

import random
import unittest
from fractions import Fraction

from linemix.bests import halfway, in_best, is_best_mix, is_best_paper, least_fullness, met_just
from linemix.costs import best_mix, best_paper, cost
from linemix.counts import Counts
from linemix.errors import BadLine, BadPair, BadRow, OtherSize, OtherTotal, TooMany, Unfit
from linemix.lines import lines_of
from linemix.mixes import Mix
from linemix.numbers import is_at_most
from linemix.orders import Order
from linemix.pairs import all_pairs, open_pairs, sure_pairs
from linemix.papers import Paper
from linemix.rises import rise, share_mix
from linemix.shapes import antichain, bent, chain, standard
from tests.plain_support import plain_shift, told
from tests.support import (
    NO_LISTS, NO_PAIRS, ORDER, CostCase, earned_by, few_counts, five_thousand_lower_sets, many_lines, plain_lines,
    small_orders, some_orders,
)

BIG = 10 ** 28
ORDERS = small_orders()[::6] + some_orders(3, 5, 5) + [antichain(3), antichain(4), ORDER]
RING = Counts([(1, 0, 1), (2, 1, 1), (0, 2, 1)])
TOLLS = Counts([(1, 0, 1), (1, 2, 2), (2, 0, 1)])


def some_tolls(order):
    """Tolls of few pairs, the same on every run: with equal, with unlike and with great numbers beside small ones."""
    return few_counts(order, 1, 3, 1) + few_counts(order, 1, 4, 3) + few_counts(order, 1, 2, BIG) + [Counts()]


class BestMixTest(CostCase):
    def test_by_its_words(self):
        dice = random.Random("best mixes")
        for order in ORDERS:
            for tolls in some_tolls(order):
                best = best_mix(order, tolls)
                self.gives(True, is_best_mix, order, tolls, best)
                value = Fraction(*cost(order, tolls))
                lines = lines_of(order, first=20)
                rows = [(dice.choice(lines), dice.randint(1, 3)) for _ in range(3)]
                for mix in (Mix(1, rows), Mix(2, rows[:1]), Mix(1, ()), best + Mix(1, rows[:1]), best + best):
                    wanted = mix.pays(tolls) and Fraction(*mix.total) == value
                    self.gives(wanted, is_best_mix, order, tolls, mix)

    def test_lines_of_other_orders(self):
        # What pays with the right total, but not by lines of the order, is not best.
        order = chain(2) + chain(1)
        tolls = Counts([(2, 0, 1)])
        self.gives(True, is_best_mix, order, tolls, Mix(1, [((0, 2, 1), 1)]))
        self.gives(False, is_best_mix, order, tolls, Mix(1, [((1, 0, 2), 1)]))
        self.gives(False, is_best_mix, order, tolls, Mix(1, [((0, 1, 2, 3), 1)]))
        self.gives(False, is_best_mix, order, tolls, Mix(1, [((0, 1), 1)]))

    def test_no_toll(self):
        for order in (chain(1), ORDER, antichain(5)):
            self.gives(True, is_best_mix, order, Counts(), Mix(9, ()))
            line = tuple(lines_of(order, first=1)[0])
            self.gives(False, is_best_mix, order, Counts(), Mix(9, [(line, 1)]))

    def test_by_hand(self):
        mix = Mix(2, [((0, 1, 2), 1), ((1, 2, 0), 1), ((2, 0, 1), 1)])
        self.gives(True, is_best_mix, antichain(3), RING, mix)
        self.gives(True, is_best_mix, antichain(3), RING, Mix(4, [(line, 2) for line, _ in mix]))
        self.gives(False, is_best_mix, antichain(3), RING, Mix(4, [(line, 3) for line, _ in mix]))
        self.gives(False, is_best_mix, antichain(3), RING * 2, mix)


class BestPaperTest(CostCase):
    def test_by_its_words(self):
        for order in ORDERS:
            for tolls in some_tolls(order):
                best = best_paper(order, tolls)
                self.gives(True, is_best_paper, order, tolls, best)
                value = Fraction(*cost(order, tolls))
                papers = [Paper(1, Counts.at(all_pairs(order)[:1])), Paper(3, Counts.at(open_pairs(order)[:2])),
                          Paper(1, Counts()), Paper(best.bottom, best.counts * 2), Paper(best.bottom * 2, best.counts),
                          Paper(best.bottom * 3, best.counts * 3)]
                for paper in papers:
                    holds = all(earned_by(line, paper.counts) <= paper.bottom for line in plain_lines(order))
                    wanted = holds and Fraction(paper.counts.product_sum(tolls), paper.bottom) == value
                    self.gives(wanted, is_best_paper, order, tolls, paper)

    def test_weights_at_other_pairs(self):
        # A best paper may have weights at pairs without a toll.
        tolls = Counts([(0, 1, 1)])
        self.gives(True, is_best_paper, antichain(3), tolls, Paper(2, Counts([(0, 1, 2), (1, 0, 2)])))
        self.gives(False, is_best_paper, antichain(3), tolls, Paper(2, Counts([(0, 1, 2), (1, 0, 2), (2, 0, 1)])))
        # Without tolls every paper that holds is best.
        self.gives(True, is_best_paper, antichain(3), Counts(), Paper(2, RING))
        self.gives(False, is_best_paper, antichain(3), Counts(), Paper(1, RING))


class FullnessTest(CostCase):
    def full(self, order, tolls, line):
        """The least fullness, with a best paper that reaches it; by which each line is known to be in a best mix."""
        value = self.told(least_fullness, order, tolls, line)
        self.fraction(value)
        turned = [(x, y) for x, y, _ in tolls if line.index(x) > line.index(y)]
        self.assertEqual(value, told(-plain_shift(order, tolls, {pair: -1 for pair in turned})))
        best = self.gives(value == (1, 1), in_best, order, tolls, line)
        near = Counts([(x, y, toll * 10 ** 9 - ((x, y) in turned)) for x, y, toll in tolls])
        paper = best_paper(order, near)
        self.assertTrue(is_best_paper(order, tolls, paper))
        self.assertEqual(told(Fraction(earned_by(line, paper.counts), paper.bottom)), value)
        # Every best paper has at least so much on the line.
        other = best_paper(order, tolls)
        self.assertTrue(is_at_most(value, told(Fraction(earned_by(line, other.counts), other.bottom))))
        return best

    def test_all_lines(self):
        # [122]
        for order in ORDERS:
            lines = plain_lines(order)
            for tolls in some_tolls(order):
                best = [line for line in lines[::max(1, len(lines) // 8)] if self.full(order, tolls, line)]
                for line, _ in best_mix(order, tolls):
                    self.assertTrue(in_best(order, tolls, list(line)))
                # A line is in a best mix exactly if paying its part leaves that much less to be paid.
                for line in lines[::max(1, len(lines) // 8)]:
                    many = 10 ** 9
                    rest = Counts([(x, y, max(0, toll * many - (line.index(x) > line.index(y)))) for x, y, toll in tolls])
                    left = Fraction(*cost(order, rest)) == many * Fraction(*cost(order, tolls)) - 1
                    self.assertEqual(left, line in best)

    def test_by_hand(self):
        order = antichain(3)
        self.assertEqual([in_best(order, TOLLS, (2, 1, 0)), in_best(order, TOLLS, (0, 1, 2))], [True, False])
        self.gives((0, 1), least_fullness, order, Counts(), (0, 1, 2))
        self.gives(False, in_best, order, Counts(), (0, 1, 2))
        self.gives((1, 1), least_fullness, order, RING, (0, 1, 2))
        self.gives((1, 2), least_fullness, order, RING, (0, 2, 1))
        self.gives((1, 1), least_fullness, chain(2), Counts([(1, 0, 5)]), (0, 1))
        self.gives((0, 1), least_fullness, chain(1), Counts(), (0,))

    def test_many_lines(self):
        for order in (many_lines(), five_thousand_lower_sets(), antichain(12)):
            for tolls in few_counts(order, 2, 8, 3) + few_counts(order, 1, 8, 10 ** 30):
                for line, _ in best_mix(order, tolls):
                    self.assertTrue(in_best(order, tolls, line))


class MetJustTest(CostCase):
    def test_by_its_words(self):
        # [122]
        seen = set()
        for order in ORDERS:
            for tolls in some_tolls(order):
                for x, y, toll in tolls:
                    met = self.told(met_just, order, tolls, (x, y))
                    seen.add(met)
                    # Some best paper has a weight there exactly if the greatest one is above 0.
                    self.assertEqual(met, plain_shift(order, tolls, {(x, y): 1}) > 0)
                    if order.are_open(x, y):
                        self.assertEqual(met, rise(order, tolls, (x, y)) > (0, 1))
                        share = share_mix(order, tolls, (x, y)).share(x, y)
                        self.assertEqual(met, share == (toll, 1))
                    else:
                        self.assertEqual(met, cost(order, tolls) == (toll, 1))
        self.assertEqual(seen, {True, False})

    def test_by_hand(self):
        order = chain(2) + chain(1)
        self.gives(True, met_just, order, Counts([(1, 0, 3), (2, 0, 2)]), [1, 0])
        self.gives(False, met_just, order, Counts([(1, 0, 3), (2, 0, 4)]), (1, 0))
        self.gives(True, met_just, order, Counts([(1, 0, 3), (2, 0, 2)]), (1, 0))
        self.gives(False, met_just, antichain(3), TOLLS, (1, 0))
        self.gives(True, met_just, antichain(3), TOLLS, (1, 2))
        self.gives(True, met_just, chain(2), Counts([(1, 0, BIG)]), (1, 0))


class HalfwayTest(CostCase):
    def test_by_its_words(self):
        dice = random.Random("halfway")
        for order in ORDERS:
            lines = lines_of(order, first=12)
            for _ in range(4):
                rows = [[(dice.choice(lines), 2) for _ in range(4)] for _ in range(2)]
                one, other = Mix(6, rows[0]), Mix(12, rows[1] + rows[1])
                told_mix = self.told(halfway, one, other)
                self.assertEqual(told_mix.total, one.total)
                for line in lines:
                    middle = Fraction(one.number_of(line), 6) + Fraction(other.number_of(line), 12)
                    self.assertEqual(Fraction(told_mix.number_of(line), told_mix.bottom), middle / 2)

    def test_best_mixes(self):
        # [125]
        for order in ORDERS:
            for tolls in some_tolls(order):
                for x, y in open_pairs(order)[:3]:
                    one, other = share_mix(order, tolls, (x, y)), share_mix(order, tolls, (x, y), least=True)
                    between = halfway(one, other)
                    self.assertTrue(is_best_mix(order, tolls, between))
                    self.assertEqual(2 * Fraction(*between.share(x, y)),
                                     Fraction(*one.share(x, y)) + Fraction(*other.share(x, y)))

    def test_edges_and_refusals(self):
        line, turned = (0, 1), (1, 0)
        self.gives(Mix(4, [(line, 1), (turned, 1)]), halfway, Mix(2, [(line, 1)]), Mix(4, [(turned, 2)]))
        self.gives(Mix(1, ()), halfway, Mix(3, ()), Mix(5, ()))
        self.gives(Mix(2, [(line, 1)]), halfway, Mix(2, [(line, 1)]), Mix(2, [(line, 1)]))
        self.fails(OtherTotal(), halfway, Mix(2, [(line, 1)]), Mix(3, [(line, 1)]))
        self.fails(OtherTotal(), halfway, Mix(2, [(line, 1)]), Mix(3, ()))
        self.fails(OtherTotal(), halfway, Mix(2, [(line, 1)]), Mix(3, [((0, 1, 2), 1)]))
        self.fails(OtherSize(3), halfway, Mix(2, [(line, 1)]), Mix(4, [((0, 1, 2), 2)]))
        self.fails(OtherSize(2), halfway, Mix(4, [((0, 1, 2), 2)]), Mix(2, [(line, 1)]))


class RefusalsTest(CostCase):
    def test_unfit_comes_first(self):
        unfit = Counts([(0, 2, 1), (1, 2, 1)])
        for call, rest in ((is_best_mix, (Mix(1, ()),)), (is_best_paper, (Paper(1, Counts([(1, 1, 1)])),)),
                           (least_fullness, (None,)), (in_best, (None,)), (met_just, (None,))):
            self.fails(Unfit(0, 2), call, ORDER, unfit, *rest)

    def test_other_arguments(self):
        fit = Counts([(1, 0, 1)])
        self.fails(Unfit(1, 2), is_best_paper, ORDER, fit, Paper(1, Counts([(1, 0, 1), (1, 2, 1)])))
        for call in (least_fullness, in_best):
            for value in NO_LISTS:
                self.fails(BadRow(-1), call, ORDER, fit, value)
            for line, place in (((0, 1, 2), 3), ((0, 1, 2, 4), 3), ((0, 0, 1, 2), 1), ((True, 0, 2, 3), 0)):
                self.fails(BadRow(place), call, ORDER, fit, line)
            self.fails(BadLine(0), call, ORDER, fit, (2, 0, 1, 3))
        for value in NO_PAIRS + ((0, 1), (3, 0)):
            self.fails(BadPair(-1), met_just, ORDER, fit, value)
        self.fails(BadPair(-1), met_just, ORDER, Counts(), (1, 0))

    def test_bounds_come_last(self):
        for order in (antichain(4), chain(16), many_lines()):
            pairs = (sure_pairs(order)[:4] + open_pairs(order) + sure_pairs(order)[4:])[:9]
            line = lines_of(order, first=1)[0]
            self.bounds(order, Counts.at(pairs[:8]), line, pairs[0], None)
            self.bounds(order, Counts.at(pairs), line, pairs[0], TooMany(8))
            self.fails(BadRow(-1), in_best, order, Counts.at(pairs), None)
            self.fails(BadPair(-1), met_just, order, Counts.at(pairs), None)
            self.fails(Unfit(0, 0), is_best_paper, order, Counts.at(pairs), Paper(1, Counts([(0, 0, 1)])))
        for order in (antichain(13), five_thousand_lower_sets() >> chain(1), Order(14, [(0, 1)])):
            pairs = open_pairs(order)[:9]
            line = tuple(range(order.size))
            self.bounds(order, Counts.at(pairs[:8]), line, pairs[0], TooMany(5000))
            self.bounds(order, Counts.at(pairs), line, pairs[0], TooMany(8))
            for call, rest in ((is_best_mix, Mix(1, ())), (is_best_paper, Paper(1, Counts())),
                               (least_fullness, line), (in_best, line)):
                self.fails(TooMany(5000), call, order, Counts(), rest)

    def bounds(self, order, tolls, line, pair, error):
        for call, rest in ((is_best_mix, Mix(1, ())), (is_best_mix, Mix(1, [((0,), 1)])), (is_best_paper, Paper(1, Counts())),
                           (least_fullness, line), (in_best, line), (met_just, pair)):
            if error is None:
                self.told(call, order, tolls, rest)
            else:
                self.fails(error, call, order, tolls, rest)

    def test_standard_orders(self):
        order = standard(3)
        ones = Counts([(0, 3, 1), (1, 4, 1), (2, 5, 1)])
        for line in lines_of(order, first=30):
            self.assertEqual(in_best(order, ones, line), earned_by(line, ones) == 1)
        self.gives(True, met_just, bent(), Counts([(2, 5, 7)]), (2, 5))


if __name__ == "__main__":
    unittest.main()
