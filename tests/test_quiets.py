"""linemix/quiets.py, with [97] and [98]."""

import unittest

from linemix.calms import is_calm
from linemix.costs import cost, tight_ones
from linemix.counts import Counts
from linemix.errors import BadPair, TooMany, Unfit
from linemix.numbers import is_at_most
from linemix.orders import Order
from linemix.pairs import all_pairs, is_quiet, open_pairs, sure_pairs
from linemix.papers import Paper
from linemix.quiets import loud_quiet, quiet_cost, quiet_paper
from linemix.rings import is_turnable, least_rings, ring_around
from linemix.shapes import antichain, bent, chain, crown, standard
from linemix.twochains import dearest_couple
from linemix.wholes import whole_cost
from tests.plain_support import plain_against, plain_least, plain_quiets, shortest_odd, told
from tests.support import (
    NO_LISTS, NO_PAIRS, ORDER, CostCase, few_counts, is_turned, many_lines, small_orders, some_lots, some_orders,
    turned_sets,
)

BIG = 10 ** 30
ORDERS = small_orders()[::4] + some_orders(8, 5, 6) + [standard(3), bent(), antichain(5)]


def has_odd_round(order, lot):
    """Whether the pairs of a lot have an odd round: some odd number of at least three steps leads back."""
    return shortest_odd(lot, lambda pair, other: plain_against(order, pair, other)) is not None


class QuietCostTest(CostCase):
    def quiet(self, order, tolls, wanted=None):
        """The quiet cost from both sides: weights on quiet lots that pay, found plainly, and the paper."""
        pairs = [(x, y) for x, y, _ in tolls]
        lots = plain_quiets(order, pairs)
        value = self.told(quiet_cost, order, tolls)
        self.fraction(value)
        self.assertEqual(value, told(plain_least(lots, tolls)))
        if wanted is not None:
            self.assertEqual(value, wanted)
        paper = self.told(quiet_paper, order, tolls)
        self.assertIs(type(paper), Paper)
        self.assertEqual(paper.value_at(tolls), value)
        self.assertTrue(all((x, y) in pairs and number >= 1 for x, y, number in paper))
        for lot in lots:
            self.assertLessEqual(sum(paper.counts[pair] for pair in lot), paper.bottom)
        return value

    def test_both_sides(self):
        for order in ORDERS:
            for tolls in few_counts(order, 2, 5, 4) + few_counts(order, 1, 7, 2):
                value = self.quiet(order, tolls)
                # [99]
                self.assertTrue(is_at_most((dearest_couple(order, tolls)[0], 1), value))
                self.assertTrue(is_at_most(value, cost(order, tolls)))

    def test_by_hand(self):
        self.quiet(antichain(3), Counts(), (0, 1))
        self.quiet(chain(1), Counts(), (0, 1))
        self.quiet(antichain(3), Counts.at(ring_around(antichain(3), (0, 1, 2))), (1, 1))
        self.quiet(chain(3), Counts([(1, 0, 4), (2, 0, 7)]), (7, 1))
        self.quiet(antichain(2), Counts([(1, 0, 10 ** 28), (0, 1, 1)]), (10 ** 28 + 1, 1))
        self.quiet(standard(3), Counts.at([(0, 3), (1, 4), (2, 5)]), (3, 1))
        # Five pairs, each against the next one: quiet lots have two of them at most.
        self.quiet(bent(), tight_ones(bent()), (5, 2))

    def test_twelve_and_thirteen_tolls(self):
        for order in (antichain(5), chain(16), Order(9, [(0, 1), (2, 3)]), many_lines(), crown(6, reach=1)):
            pairs = (sure_pairs(order)[:6] + open_pairs(order) + sure_pairs(order)[6:])[:13]
            for call in (quiet_cost, quiet_paper):
                self.told(call, order, Counts.at(pairs[:12], number=BIG))
                self.fails(TooMany(12), call, order, Counts.at(pairs))
        order = antichain(7)
        couples = [(x, y) for x, y in all_pairs(order) if x // 2 == y // 2]
        self.assertEqual(quiet_cost(order, Counts.at(couples, number=3)), (6, 1))

    def test_refusals(self):
        for call in (quiet_cost, quiet_paper):
            self.fails(Unfit(0, 2), call, ORDER, Counts([(0, 2, 1), (1, 2, 1), (3, 0, 1)]))
            self.fails(Unfit(4, 4), call, antichain(5), Counts.ones(antichain(5)) + Counts([(4, 4, 1)]))

    def test_any_quiet_lot_of_the_order(self):
        # The paper has weights at tolled pairs alone: so lots with other pairs weigh no more.
        for order in small_orders()[::11]:
            for tolls in few_counts(order, 2, 4, 3):
                paper = quiet_paper(order, tolls)
                for lot in plain_quiets(order, all_pairs(order)) if len(all_pairs(order)) < 12 else ():
                    self.assertLessEqual(sum(paper.counts[pair] for pair in lot), paper.bottom)


class LoudQuietTest(CostCase):
    def test_by_all_lots(self):
        for order in ORDERS:
            sets = turned_sets(order)
            for lot in some_lots(order, 5, 8):
                loud = [part for part in plain_quiets(order, lot) if not is_turned(part, sets)]
                answer = self.gives(loud[0] if loud else None, loud_quiet, order, lot[::-1])
                rings = least_rings(order, lot)
                self.assertEqual(answer is None, all(len(ring) == 2 for ring in rings))
                if answer is not None:
                    self.assertIn(answer, rings)
                    self.assertTrue(len(answer) >= 3 and is_quiet(order, answer) and not is_turnable(order, answer))
                    ones = Counts.at(answer)
                    self.assertEqual(cost(order, ones), (len(answer), len(answer) - 1))
                    self.assertEqual(quiet_cost(order, ones), (1, 1))

    def test_without_one_the_cost_is_the_quiet_cost(self):
        for order in ORDERS:
            for tolls in few_counts(order, 4, 6, 4) + few_counts(order, 2, 9, 2):
                if loud_quiet(order, [(x, y) for x, y, _ in tolls]) is None:
                    self.assertEqual(cost(order, tolls), quiet_cost(order, tolls))

    def test_calm_lots_without_odd_rounds(self):
        # [98]
        seen = set()
        for order in ORDERS + [standard(4), crown(4, reach=1)]:
            for lot in some_lots(order, 6, 5) + [tuple(open_pairs(order)[:5])]:
                if loud_quiet(order, lot) is None:
                    odd = has_odd_round(order, lot)
                    self.assertIs(is_calm(order, lot), not odd)
                    seen.add(odd)
                    tolls = Counts([(x, y, 1 + (x + 2 * y) % 4) for x, y in lot])
                    if not odd:
                        self.assertEqual(cost(order, tolls), (dearest_couple(order, tolls)[0], 1))
                        self.assertEqual(whole_cost(order, tolls), dearest_couple(order, tolls)[0])
        for order, lot in ((standard(3), ((0, 3), (1, 4), (2, 5))), (standard(4), ((0, 4), (1, 5), (2, 6)))):
            self.assertIsNone(loud_quiet(order, lot))
            self.assertTrue(has_odd_round(order, lot) and not is_calm(order, lot))

    def test_by_hand(self):
        ring = ring_around(antichain(4), (0, 1, 2, 3))
        self.gives(tuple(sorted(ring)), loud_quiet, antichain(4), ring)
        self.gives(((0, 1), (1, 2), (2, 0)), loud_quiet, antichain(3), all_pairs(antichain(3)))
        self.gives(None, loud_quiet, antichain(2), [(0, 1), (1, 0)])
        self.gives(None, loud_quiet, chain(3), sure_pairs(chain(3)))
        self.gives(None, loud_quiet, chain(1), ())

    def test_refusals_in_their_order(self):
        for value in NO_LISTS:
            self.fails(BadPair(-2), loud_quiet, ORDER, value)
        for value in NO_PAIRS:
            self.fails(BadPair(0), loud_quiet, ORDER, [value, None])
        pairs = all_pairs(antichain(5))
        self.told(loud_quiet, antichain(5), pairs[:12])
        self.fails(TooMany(12), loud_quiet, antichain(5), pairs[:13])
        self.fails(BadPair(13), loud_quiet, antichain(5), pairs[:13] + pairs[:1])
        self.fails(TooMany(12), loud_quiet, chain(16), sure_pairs(chain(16))[:13])


if __name__ == "__main__":
    unittest.main()
