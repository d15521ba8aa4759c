"""linemix/calms.py, with [92] to [94]."""

import random
import unittest
from fractions import Fraction
from itertools import combinations, product
from math import gcd

from linemix.calms import breaking_tolls, corners, is_calm, whole_corners
from linemix.costs import cost
from linemix.counts import Counts
from linemix.errors import BadPair, TooMany
from linemix.leading import tight_pairs
from linemix.lots import least_meetings
from linemix.numbers import is_at_most
from linemix.orders import Order
from linemix.pairs import all_pairs, open_pairs, sure_pairs
from linemix.rings import least_rings, ring_around
from linemix.shapes import antichain, bent, chain, crown, standard
from linemix.shares import ring_cost
from tests.plain_support import just_met, plain_corners, plain_most, rank_of, unlike_orders
from tests.support import (
    NO_LISTS, NO_PAIRS, ORDER, CostCase, few_counts, lots_within, many_lines, small_orders, some_lots, some_orders,
)

CALLS = (corners, is_calm, breaking_tolls, whole_corners)
ORDERS = small_orders()[::9] + some_orders(6, 5, 6) + [antichain(4), antichain(5), standard(3), bent()]
# Lots of tight pairs of which some are not calm.
UNCALM = [(standard(3), tight_pairs(standard(3))), (standard(4), tight_pairs(standard(4))),
          (standard(5), tight_pairs(standard(5))), (bent(), tight_pairs(bent())),
          (crown(5, reach=1), ((0, 5), (1, 7), (2, 8), (3, 9), (4, 9))),
          (crown(4, reach=1), ((0, 4), (0, 5), (1, 6), (2, 6), (3, 7)))]


def numbered_rings(order, lot):
    """The least rings of a lot as sets of the numbers of its pairs."""
    return [{lot.index(pair) for pair in ring} for ring in least_rings(order, lot)]


class CornersTest(CostCase):
    def cornered(self, order, lot):
        """All that [92] says of the corners of a lot."""
        rings = numbered_rings(order, lot)
        answer = self.told(corners, order, lot[::-1])
        self.assertIs(type(answer), list)
        self.assertEqual(answer, sorted(set(answer)))
        for bottom, row in answer:
            self.assertTrue(type(bottom) is int and bottom >= 1 and type(row) is tuple and len(row) == len(lot))
            self.assertTrue(all(type(number) is int and 0 <= number <= bottom for number in row))
            self.assertEqual(gcd(bottom, *row), 1)
            values = [Fraction(number, bottom) for number in row]
            # No row is the middle of two others if the demands that it meets just leave no way to move.
            self.assertTrue(all(sum(values[at] for at in ring) >= 1 for ring in rings))
            self.assertEqual(rank_of(just_met(values, rings, len(lot))), len(lot))
        return answer, rings

    def test_by_all_ways_to_meet_demands(self):
        for order in ORDERS:
            for lot in some_lots(order, 8, 4):
                answer, rings = self.cornered(order, lot)
                told = {tuple(Fraction(number, bottom) for number in row) for bottom, row in answer}
                self.assertEqual(told, plain_corners(len(lot), rings))
                self.assertEqual(len(told), len(answer))

    def test_lots_of_five_pairs(self):
        cases = [(order, lot) for order in ORDERS for lot in some_lots(order, 3, 5)]
        for order, lot in cases + UNCALM:
            self.cornered(order, lot)
        for order, lot in UNCALM:
            answer, rings = self.cornered(order, lot)
            told = {tuple(Fraction(number, bottom) for number in row) for bottom, row in answer}
            self.assertEqual(told, plain_corners(len(lot), rings))

    def test_all_ways_to_be_against_one_another(self):
        # Five pairs, any of which can be against any other ones: each graph of five points is met.
        couples = list(combinations(range(5), 2))
        lot = tuple((at, 5 + at) for at in range(5))
        bottoms = set()
        for mask in list(range(0, 1 << 10, 3)) + [1 << 10]:
            edges = [couple for at, couple in enumerate(couples) if mask >> at & 1] if mask < 1 << 10 else \
                [(0, 4), (1, 2), (1, 3), (2, 3), (2, 4)]
            order = Order(10, [(x, 5 + y) for x, y in edges] + [(y, 5 + x) for x, y in edges])
            answer, rings = self.cornered(order, lot)
            self.assertEqual(sorted(map(sorted, rings)), sorted(map(list, edges)))
            bottoms.update(bottom for bottom, _ in answer)
            if mask % 111 == 0 or mask == 1 << 10:
                told = {tuple(Fraction(number, bottom) for number in row) for bottom, row in answer}
                self.assertEqual(told, plain_corners(5, rings))
        self.assertEqual(bottoms, {1, 2})
        self.assertIn((2, (0, 1, 1, 1, 2)), answer)

    def test_each_row_is_at_least_a_mean_of_corners(self):
        dice = random.Random("rows above corners")
        for order, lot in UNCALM:
            rings = numbered_rings(order, lot)
            told = [[Fraction(number, bottom) for number in row] for bottom, row in corners(order, lot)]
            for _ in range(6):
                row = [Fraction(dice.randint(0, 6), 6) for _ in lot]
                short = max(1 - sum(row[at] for at in ring) for ring in rings)
                if short > 0:
                    row = [value + short / 2 for value in row]
                # The most that numbers of corners sum to, if they stay within the row, is at least 1.
                most = plain_most([1] * len(told), [[corner[at] for corner in told] for at in range(len(lot))], row)
                self.assertGreaterEqual(most, 1)

    def test_edges(self):
        self.gives([(1, ())], corners, antichain(3), ())
        self.gives([(1, ())], corners, chain(1), [])
        self.gives([(1, (0, 0))], corners, chain(3), [(2, 1), [2, 0]])
        self.gives([(1, (0, 0, 0))], corners, many_lines(), [(0, 15), (13, 2), (1, 0)])
        self.gives([(1, (0, 1, 0)), (1, (1, 0, 0))], corners, Order(3, [(0, 2)]),
                   [(2, 0), (0, 1), (1, 0)])

    def test_example(self):
        self.gives([(1, (0, 1, 1)), (1, (1, 0, 1)), (1, (1, 1, 0)), (2, (1, 1, 1))], corners, standard(3),
                   tight_pairs(standard(3)))

    def test_standard_orders(self):
        # [94]
        for k in (3, 4, 5):
            order = standard(k)
            tight = tight_pairs(order)
            rows = [(1, tuple(int(at != other) for at in range(k))) for other in range(k)] + [(2, (1,) * k)]
            self.gives(sorted(rows), corners, order, tight)
            self.gives(False, is_calm, order, tight)
            tolls = self.gives(Counts.at(tight), breaking_tolls, order, tight)
            self.assertEqual(cost(order, tolls), (k, 1))
            self.assertEqual(ring_cost(order, tolls), (2, 1))


class CalmTest(CostCase):
    def test_calm_and_whole(self):
        for order, lot in [(order, lot) for order in ORDERS for lot in some_lots(order, 5, 5)] + UNCALM:
            told = corners(order, lot)
            self.gives(all(bottom == 1 for bottom, _ in told), is_calm, order, lot[::-1])
            whole = [tuple(pair for pair, number in zip(lot, row) if number) for bottom, row in told if bottom == 1]
            self.gives(sorted(whole), whole_corners, order, lot[::-1])
            self.gives(least_meetings(order, lot), whole_corners, order, lot)

    def test_breaking_tolls(self):
        # [93]
        for order, lot in [(order, lot) for order in ORDERS for lot in some_lots(order, 5, 5)] + UNCALM:
            broken = [corner for corner in corners(order, lot) if corner[0] > 1]
            tolls = self.told(breaking_tolls, order, lot[::-1])
            if not broken:
                self.assertIsNone(tolls)
                continue
            bottom, row = broken[0]
            self.assertEqual(tolls, Counts([(x, y, bottom - number) for (x, y), number in zip(lot, row)]))
            self.assertFalse(is_at_most(cost(order, tolls), (bottom, 1)))
            self.assertTrue(is_at_most(ring_cost(order, tolls), (bottom, 1)))
        self.assertGreater(len([lot for order, lot in UNCALM if not is_calm(order, lot)]), 3)

    def test_calm_lots_cost_their_ring_cost(self):
        # [93]
        dice = random.Random("calm lots")
        for order in ORDERS:
            for lot in some_lots(order, 4, 5):
                if is_calm(order, lot):
                    for most in (1, 3, 10 ** 28):
                        tolls = Counts([(x, y, dice.choice([0, 1, dice.randint(0, most)])) for x, y in lot])
                        self.assertEqual(cost(order, tolls), ring_cost(order, tolls))

    def test_costs_by_whole_corners(self):
        # [93]: tolls of at most b cost at most b exactly if the rest is at least a mean of whole corners.
        for order, lot in UNCALM + [(order, lot) for order in ORDERS for lot in some_lots(order, 1, 4)]:
            whole = [row for bottom, row in corners(order, lot) if bottom == 1]
            for bottom in (1, 2, 3):
                for row in list(product(range(bottom + 1), repeat=len(lot)))[::37]:
                    tolls = Counts([(x, y, number) for (x, y), number in zip(lot, row)])
                    rest = [Fraction(bottom - number, bottom) for number in row]
                    # A corner of zeros alone is at most every row.
                    made = not any(map(any, whole)) or plain_most(
                        [1] * len(whole), [[told[at] for told in whole] for at in range(len(lot))], rest) >= 1
                    self.assertEqual(is_at_most(cost(order, tolls), (bottom, 1)), made)

    def test_all_lots_of_up_to_four_places(self):
        # [94]: renumbering changes nothing of this, so one order of each shape is enough.
        orders = [order for size in (1, 2, 3, 4) for order in unlike_orders(size)]
        self.assertEqual(len(orders), 1 + 2 + 5 + 16)
        for order in orders:
            pairs = open_pairs(order)
            for lot in lots_within(pairs, min(5, len(pairs))):
                self.assertTrue(is_calm(order, lot))

    def test_up_to_five_places(self):
        # [94]
        for order in small_orders()[::4] + some_orders(20, 5, 5) + [antichain(5)]:
            for lot in some_lots(order, 6, 5):
                self.assertIs(is_calm(order, lot), True)
                self.assertIsNone(breaking_tolls(order, lot))
            for tolls in few_counts(order, 3, 12, 3):
                self.assertEqual(cost(order, tolls), ring_cost(order, tolls))

    def test_rings_of_each_size_are_calm(self):
        for k in (2, 3, 4, 5):
            ring = ring_around(antichain(k), tuple(range(k)))
            self.gives([(1, tuple(int(at == other) for at in range(k))) for other in range(k)][::-1], corners,
                       antichain(k), ring)
            self.gives(True, is_calm, antichain(k), ring)

    def test_refusals_in_their_order(self):
        pairs, sure = all_pairs(antichain(3)), sure_pairs(chain(5))
        for call in CALLS:
            for value in NO_LISTS:
                self.fails(BadPair(-2), call, ORDER, value)
            for value in NO_PAIRS:
                self.fails(BadPair(1), call, ORDER, [(1, 0), value])
            self.fails(BadPair(2), call, ORDER, [(1, 0), (0, 1), [1, 0]])
            self.fails(BadPair(6), call, antichain(3), pairs + ((0, 3),))
            for order, lot in ((antichain(3), pairs), (chain(5), sure)):
                self.told(call, order, lot[:5])
                self.fails(TooMany(5), call, order, lot[:6])


if __name__ == "__main__":
    unittest.main()
