"""What holds between the functions of section 9 and the ones of earlier sections: [131] to [135]."""

import random
import unittest
from fractions import Fraction

from linemix.bests import in_best, is_best_paper, met_just
from linemix.calms import is_calm
from linemix.circles import circle_counts, circles_in
from linemix.costs import best_paper, cost, full_cost
from linemix.counts import Counts
from linemix.families import Family, family_counts, order_of, table_of
from linemix.numbers import add_up, greater_of, is_at_most
from linemix.onemore import chain_bound, couple_bound, place_bound, tolls_at, tolls_without, without
from linemix.orders import Order
from linemix.pairs import open_pairs
from linemix.papers import Paper
from linemix.putting import cross_counts, inner_counts, put_in
from linemix.quiets import quiet_cost
from linemix.rates import rate_bound, rate_tolls
from linemix.rings import least_rings
from linemix.rises import critical_toll, greatest_share
from linemix.shapes import antichain, bent, chain, standard
from linemix.shares import ring_cost
from linemix.ties import tied
from linemix.twochains import dearest_couple
from linemix.wholes import whole_cost, whole_lines
from linemix.widths import load_bound
from tests.plain_support import GREAT, plain_papers, told
from tests.support import CostCase, few_counts, orders_of, small_orders, some_orders

ORDERS = small_orders()[::6] + some_orders(5, 5, 5) + [antichain(4)]


def value_of(fraction):
    return Fraction(*fraction)


class WholeTest(CostCase):
    def test_one_place(self):
        # [131]
        for order in ORDERS + [bent(), standard(3)]:
            for tolls in few_counts(order, 2, 6, 3):
                value = whole_cost(order, tolls)
                for x in range(order.size):
                    if order.size > 1:
                        a, b = tolls_at(order, tolls, x)
                        rest = whole_cost(without(order, [x]), tolls_without(order, tolls, [x]))
                        self.assertLessEqual(value, max(rest, min(a, b)) + max(a, b))

    def test_ties(self):
        # [131]
        for order in ORDERS + [bent(), standard(3)]:
            for u, v in open_pairs(order)[::3]:
                up, down = tied(order, (u, v)), tied(order, (v, u))
                for tolls in few_counts(up, 2, 5, 2):
                    lines = whole_lines(order, tolls)
                    over = len([line for line in lines if line.index(v) > line.index(u)])
                    self.assertLessEqual(whole_cost(up, tolls), 2 * len(lines) - over)
                    both = Counts([(x, y, toll) for x, y, toll in tolls if not down.is_below(x, y)])
                    self.assertLessEqual(whole_cost(up, both) + whole_cost(down, both), 3 * whole_cost(order, both))


class SumTest(CostCase):
    def common_paper(self, order, one, other):
        """Whether some paper is best for both: then its value at the one is the cost, among those best for the other.

        The greatest value at the one among best papers for the other is found by tolls close to the other ones.
        """
        near = Counts([(x, y, toll * GREAT) for x, y, toll in other]) + one
        most = plain_papers(order, list(near)) - GREAT * plain_papers(order, list(other))
        return most == plain_papers(order, list(one))

    def test_sums(self):
        # [132]
        seen = set()
        for order in ORDERS:
            for one in few_counts(order, 2, 3, 2):
                for other in few_counts(order, 3, 2, 3):
                    same = cost(order, one + other) == add_up(cost(order, one), cost(order, other))
                    self.assertEqual(same, self.common_paper(order, one, other))
                    paper = best_paper(order, one + other)
                    best = all(paper.value_at(tolls) == cost(order, tolls) for tolls in (one, other))
                    # A paper that is best for both is best for the sum, and so are all of the sum for both.
                    self.assertEqual(same, best)
                    seen.add(same)
        self.assertEqual(seen, {True, False})

    def test_calm_papers(self):
        # [132]
        for order in ORDERS + [standard(3)]:
            for tolls in few_counts(order, 3, 5, 3):
                lot = [(x, y) for x, y, _ in tolls]
                if not lot or not (order.size <= 5 or is_calm(order, lot)):
                    continue
                papers = [Paper(1, Counts.at([pair])) for pair in lot]
                papers += [Paper(len(ring) - 1, Counts.at(ring)) for ring in least_rings(order, lot)]
                self.assertTrue(any(is_best_paper(order, tolls, paper) for paper in papers))
        ones = Counts.at([(0, 3), (1, 4), (2, 5)])
        papers = [Paper(1, Counts.at([pair])) for pair in ((0, 3), (1, 4), (2, 5))]
        papers += [Paper(1, Counts.at(couple)) for couple in ([(0, 3), (1, 4)], [(0, 3), (2, 5)], [(1, 4), (2, 5)])]
        self.assertFalse(any(is_best_paper(standard(3), ones, paper) for paper in papers))


class PutInTest(CostCase):
    def test_shares_of_put_ins(self):
        # [133]
        parts = [chain(2), antichain(2), chain(1)]
        checked = 0
        for order in orders_of(2) + orders_of(3)[::3] + [antichain(3)]:
            for shift in range(3):
                chosen = [parts[(shift + x) % 3] for x in range(order.size)]
                made = put_in(order, chosen)
                for tolls in few_counts(order, 2, 2, 3):
                    inner = [few_counts(part, 1, 1, 3)[0] for part in chosen]
                    counts = cross_counts(order, chosen, tolls)
                    for x, within in enumerate(inner):
                        counts = counts + inner_counts(chosen, x, within)
                    highest = (0, 1)
                    for part, within in zip(chosen, inner):
                        highest = greater_of(highest, cost(part, within))
                    if len(counts) > 8 or not is_at_most(highest, cost(order, tolls)):
                        continue
                    starts = [sum(part.size for part in chosen[:x]) for x in range(order.size)]
                    for x, y in open_pairs(order):
                        checked += 1
                        self.assertEqual(greatest_share(made, counts, (starts[x], starts[y])),
                                         greatest_share(order, tolls, (x, y)))
        self.assertGreater(checked, 20)

    def test_ties(self):
        # [133]
        seen = set()
        for order in ORDERS:
            for u, v in open_pairs(order)[::2]:
                made = tied(order, (u, v))
                for tolls in few_counts(made, 3, 4, 2):
                    value = cost(order, tolls)
                    same = cost(made, tolls) == value
                    seen.add(same)
                    self.assertEqual(same, greatest_share(order, tolls, (v, u)) == value)
                    if tolls[v, u] == 0:
                        self.assertEqual(same, critical_toll(order, tolls, (v, u)) == value)
        self.assertEqual(seen, {True, False})


class RatesTest(CostCase):
    def test_papers_of_rate_tolls(self):
        # [134]
        dice = random.Random("rates")
        families = [Family(3, [(0, 1), (0, 2), (1, 2)]), Family(3, [(0,), (1,), (2,)]), Family(3, [(), (0,), (1,), (0, 2)]),
                    Family(4, [(0, 1), (0, 2), (1, 2), (2, 3), (1, 3)])]
        for family in families:
            pairs = family.point_pairs()
            for _ in range(6):
                lot = tuple(sorted(dice.sample(pairs, min(len(pairs), 8))))
                circles = circles_in(family, lot)
                if not circles:
                    continue
                tolls, factor = rate_tolls(family, lot, [dice.randint(1, 5) for _ in range(family.points)])
                order, counts = order_of(family), family_counts(family, tolls)
                self.assertEqual(cost(order, counts), (factor, 1))
                # Numbers at circles that add up to 1 make best papers.
                numbers = [dice.randint(0, 3) for _ in circles]
                numbers[0] += 1
                weights = Counts()
                for circle, number in zip(circles, numbers):
                    weights = weights + circle_counts(family, circle) * number
                paper = Paper(sum(numbers), family_counts(family, weights))
                self.assertTrue(is_best_paper(order, counts, paper))
                # Other ones are not best.
                self.assertFalse(is_best_paper(order, counts, Paper(sum(numbers) + 1, paper.counts)))
                for a, j in lot:
                    more = paper.counts.with_count(a, family.points + j, paper.counts[a, family.points + j] + 1)
                    less = Paper(paper.bottom + 1, more)
                    wanted = self.of_circles(family, lot, less)
                    self.assertEqual(is_best_paper(order, counts, less), wanted)
                # And the one that is told is of this kind.
                self.assertTrue(self.of_circles(family, lot, best_paper(order, counts)))

    def of_circles(self, family, lot, paper):
        """Whether the weights are numbers of circles in the lot that add up to 1."""
        numbers = {}
        for a, j in lot:
            made = tuple(sorted(family.lots[j] + (a,)))
            numbers.setdefault(made, set()).add(Fraction(paper.counts[a, family.points + j], paper.bottom))
        circles = circles_in(family, lot)
        fine = all(len(values) == 1 for made, values in numbers.items() if made in circles)
        fine = fine and all(values == {0} for made, values in numbers.items() if made not in circles)
        return fine and sum(min(numbers[circle]) for circle in circles) == 1


class EndsTest(CostCase):
    def test_ends_of_the_cost(self):
        # [135]
        dice = random.Random("ends")
        for order in ORDERS + [bent(), standard(3), Order(6, [(0, 1), (2, 3)])]:
            for tolls in few_counts(order, 3, 6, 3) + few_counts(order, 1, 4, 10 ** 28):
                if not len(tolls):
                    continue
                value = cost(order, tolls)
                lows = [(tolls.greatest_count(), 1), (dearest_couple(order, tolls)[0], 1), ring_cost(order, tolls),
                        quiet_cost(order, tolls), Paper(2, Counts.at(open_pairs(order)[:2])).value_at(tolls)]
                _, family, counts = table_of(order, tolls)
                for circle in circles_in(family, [(a, j) for a, j, _ in counts]):
                    lows.append((counts.product_sum(circle_counts(family, circle)), 1))
                for low in lows:
                    self.assertTrue(is_at_most(low, value))
                rates = [dice.randint(1, 5) for _ in range(family.points)]
                highs = [rate_bound(family, counts, rates), (load_bound(order, tolls), 1),
                         (load_bound(order, tolls, upper=True), 1)]
                for x in range(order.size):
                    if order.size > 1:
                        highs += [place_bound(order, tolls, x), chain_bound(order, tolls, (x,))]
                for x in order.bottoms():
                    for y in order.tops():
                        if order.size > 2 and order.are_open(x, y):
                            highs.append(couple_bound(order, tolls, x, y))
                for high in highs:
                    self.assertTrue(is_at_most(value, high))

    def test_closed_forms(self):
        for k in (2, 3, 4):
            order = standard(k)
            ones = Counts([(i, k + i, 1) for i in range(k)])
            self.assertEqual(full_cost(order), (k, 1))
            self.assertTrue(all(met_just(order, ones, (i, k + i)) for i in range(k)))
            self.assertEqual(in_best(order, ones, tuple(range(2 * k))), False)
            self.assertEqual(told(value_of(cost(order, ones))), (k, 1))


if __name__ == "__main__":
    unittest.main()
