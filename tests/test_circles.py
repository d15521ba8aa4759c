"""linemix/circles.py, with [52], [54], and what [113] says of standard_in."""

import random
import unittest
from itertools import combinations

from linemix.costs import full_cost, tight_ones
from linemix.counts import Counts
from linemix.circles import circle_counts, circles_in, is_level, level_parts, standard_in
from linemix.errors import BadPair, BadSet, Missing, TooMany, Unfit
from linemix.families import Family, family_cost, family_worth, order_of, table_of
from linemix.leading import tight_pairs
from linemix.lots import most_against
from linemix.numbers import is_at_most, lowest
from linemix.orders import Order
from linemix.pairs import against, all_pairs
from linemix.rates import rate_bound, rate_tolls
from linemix.shapes import antichain, bent, chain, crown, standard
from tests.families_support import (
    TRIANGLE, all_sets, pairs_at, plain_circles, plain_point_pairs, plain_rows, point_counts, sixty_lots, some_families,
)
from tests.support import NO_LISTS, ORDER, CostCase, small_orders, some_orders

# All sets of three points, and of two and less of four points: these have many circles.
FULL = Family(3, all_sets(3))
PAIRS = Family(4, [chosen for chosen in all_sets(4) if len(chosen) <= 2])
FAMILIES = some_families(20, 1, 4) + [TRIANGLE, FULL, PAIRS, Family(1, [()]), Family(2, [(0,), (1,)])]


def some_point_lots(family, many):
    pairs = plain_point_pairs(family)
    dice = random.Random(f"lots {family.points} {family.lots} {many}")
    return [dice.sample(pairs, dice.randint(0, len(pairs))) for _ in range(many)] + [pairs]


class CirclesInTest(CostCase):
    def test_by_their_words(self):
        for family in FAMILIES + [sixty_lots()]:
            for lot in some_point_lots(family, 3):
                circles = [circle for circle in plain_circles(family) if set(pairs_at(family, circle)) <= set(lot)]
                self.gives(circles, circles_in, family, lot)
                self.gives(circles, circles_in, family, [list(pair) for pair in lot[::-1]])

    def test_by_hand(self):
        self.gives([(0, 1, 2)], circles_in, TRIANGLE, TRIANGLE.point_pairs())
        self.gives([], circles_in, TRIANGLE, [(0, 2), (1, 1)])
        self.gives([], circles_in, TRIANGLE, ())
        # One point is a circle if the empty lot is a lot.
        self.gives([(0,), (2,)], circles_in, Family(3, [(0,), ()]), [(2, 1), (0, 1), (1, 0)])
        self.gives([(0,), (1,), (2,), (0, 1), (0, 2), (1, 2), (0, 1, 2)], circles_in, FULL, FULL.point_pairs())
        self.gives([], circles_in, Family(12, []), [])

    def test_refusals(self):
        for value in (None, 1, True, "01", {(0, 2)}, range(2)):
            self.fails(BadPair(-2), circles_in, TRIANGLE, value)
        for lot, place in (([(0, 2), (0, 0)], 1), ([(0, 2), (0, 2)], 1), ([(0, True)], 0), ([(0, 3)], 0), ([5], 0)):
            self.fails(BadPair(place), circles_in, TRIANGLE, lot)


class CircleCountsTest(CostCase):
    def test_by_their_words(self):
        for family in FAMILIES:
            circles = plain_circles(family)
            for chosen in all_sets(family.points)[1:]:
                if chosen in circles:
                    counts = self.told(circle_counts, family, chosen)
                    self.assertEqual(counts, Counts.at(pairs_at(family, chosen)))
                    self.assertEqual(circle_counts(family, list(chosen)[::-1]), counts)
                else:
                    lacking = [a for a in chosen if tuple(b for b in chosen if b != a) not in family.lots]
                    self.fails(Missing(min(lacking)), circle_counts, family, chosen)

    def test_each_row_turns_just_one(self):
        # [52]
        for family in FAMILIES:
            for circle in plain_circles(family):
                pairs = set(pairs_at(family, circle))
                self.assertTrue(all(len(turned & pairs) == 1 for turned in plain_rows(family)))
                self.assertEqual(family_worth(family, circle_counts(family, circle))[0], 1)

    def test_refusals(self):
        for value in NO_LISTS:
            self.fails(BadSet(-1), circle_counts, TRIANGLE, value)
        for value, place in (((3,), 0), ((0, 0), 1), ((True,), 0), ((0, -1), 1), ((), 0), ([], 0)):
            self.fails(BadSet(place), circle_counts, TRIANGLE, value)
        self.fails(Missing(0), circle_counts, TRIANGLE, (0, 1))
        self.fails(Missing(1), circle_counts, Family(3, [(1,), (2,)]), (0, 1))
        self.fails(Missing(2), circle_counts, TRIANGLE, (2,))


class RatesAndCirclesTest(CostCase):
    """[52]: where rates tell the cost."""

    def test_sum_over_a_circle_is_at_most_the_cost(self):
        for family in FAMILIES:
            for tolls in point_counts(family, 2, 30, 5):
                for circle in plain_circles(family):
                    total = sum(tolls[pair] for pair in pairs_at(family, circle))
                    self.assertTrue(is_at_most((total, 1), family_cost(family, tolls)))

    def test_rate_tolls(self):
        seen = set()
        for family in FAMILIES:
            dice = random.Random(f"{family.lots}")
            for lot in some_point_lots(family, 3):
                if len(lot) > 30:
                    continue
                circled = bool(circles_in(family, lot))
                for rates in ([1] * family.points, [dice.randint(1, 9) for _ in range(family.points)],
                              [10 ** 12 + at * at for at in range(family.points)]):
                    counts, factor = rate_tolls(family, lot, rates)
                    self.assertEqual(family_cost(family, counts) == (factor, 1), circled)
                seen.add(circled)
        self.assertEqual(seen, {True, False})

    def test_rate_bound(self):
        seen = set()
        for family in FAMILIES:
            dice = random.Random(f"{family.lots}")
            for tolls in point_counts(family, 3, 30, 2) + point_counts(family, 3, 3, 2):
                if len(tolls) == 0:
                    continue
                rates = [dice.randint(1, 2) for _ in range(family.points)]
                ends = {(a, j): lowest(toll * (rates[a] + sum(rates[b] for b in family.lots[j])), rates[a])
                        for a, j, toll in tolls}
                greatest = rate_bound(family, tolls, rates)
                lot = [pair for pair in ends if ends[pair] == greatest]
                circled = bool(circles_in(family, lot))
                seen.add(circled)
                self.assertEqual(family_cost(family, tolls) == greatest, circled)
        self.assertEqual(seen, {True, False})


class LevelTest(CostCase):
    def test_by_a_look_at_all_rows(self):
        for family in FAMILIES:
            rows = plain_rows(family)
            circles = plain_circles(family)
            dice = random.Random(f"{family.lots}")
            some = point_counts(family, 2, 3, 1) + point_counts(family, 2, 30, 2) + [Counts()]
            for _ in range(3):
                made = Counts()
                for circle in circles:
                    made = made + circle_counts(family, circle) * dice.randint(0, 3)
                some.append(made)
            for weights in some:
                self.levelled(family, weights, {sum(weights[pair] for pair in turned) for turned in rows})

    def levelled(self, family, weights, sums):
        level = self.told(is_level, family, weights)
        self.assertIs(level, len(sums) == 1)
        parts = self.told(level_parts, family, weights)
        if not level:
            self.assertIsNone(parts)
            return
        self.assertIs(type(parts), list)
        self.assertEqual(parts, sorted(parts, key=lambda part: (len(part[0]), part[0])))
        self.assertEqual(sum(number for _, number in parts), min(sums))
        total = Counts()
        for circle, number in parts:
            self.assertGreaterEqual(number, 1)
            total = total + circle_counts(family, circle) * number
        self.assertEqual(total, weights)
        self.assertEqual(len({circle for circle, _ in parts}), len(parts))
        for tolls in point_counts(family, 2, 5, 4):
            top, bottom = family_cost(family, tolls)
            self.assertLessEqual(weights.product_sum(tolls) * bottom, min(sums) * top)

    def test_by_hand(self):
        self.gives([((0, 1, 2), 4)], level_parts, TRIANGLE, Counts([(0, 2, 4), (1, 1, 4), (2, 0, 4)]))
        self.gives(None, level_parts, TRIANGLE, Counts([(0, 2, 4), (1, 1, 4), (2, 0, 3)]))
        self.gives(None, level_parts, TRIANGLE, Counts([(0, 2, 4), (1, 1, 4)]))
        self.gives([], level_parts, TRIANGLE, Counts([(0, 2, 0), (7, 7, 0)]))
        self.gives([], level_parts, Family(12, []), Counts())
        self.gives(True, is_level, Family(12, []), Counts())
        self.gives([((0,), 3), ((2,), 10 ** 30)], level_parts, Family(3, [(0, 1), ()]),
                   Counts([(2, 1, 10 ** 30), (0, 1, 3)]))
        # The set of the point and the lot is no circle: (0,) is no lot.
        self.gives(None, level_parts, Family(3, [(1,), (2,)]), Counts([(0, 0, 1)]))
        self.gives([((0,), 1), ((0, 1), 2)], level_parts, FULL,
                   Counts([(0, FULL.lots.index(()), 1), (0, FULL.lots.index((1,)), 2), (1, FULL.lots.index((0,)), 2)]))

    def test_unfit(self):
        for call in (is_level, level_parts):
            self.fails(Unfit(0, 0), call, TRIANGLE, Counts([(0, 0, 1), (0, 2, 1)]))
            self.fails(Unfit(0, 3), call, TRIANGLE, Counts([(0, 3, 1)]))
            self.fails(Unfit(3, 0), call, TRIANGLE, Counts([(3, 0, 1)]))


class StandardInTest(CostCase):
    def standard_within(self, order, told):
        xs, ys = told
        self.assertEqual(len(set(xs + ys)), 2 * len(xs))
        self.assertEqual(len(xs), len(ys))
        for i, x in enumerate(xs):
            for j, y in enumerate(ys):
                self.assertEqual(order.is_below(x, y), i != j)
                self.assertTrue(i != j or order.are_open(x, y))
        for row in (xs, ys):
            self.assertTrue(all(order.are_open(a, b) for a, b in combinations(row, 2)))

    def test_by_the_pairs_that_are_pairwise_against(self):
        for order in small_orders() + some_orders(60, 5, 9) + [standard(many) for many in range(2, 9)] + [
                bent(), crown(4, reach=1), crown(5, reach=1), standard(3) >> chain(2), standard(4) + chain(2),
                chain(2) * chain(2) * chain(2), chain(1), chain(7)]:
            if len(tight_pairs(order)) > 12:
                self.fails(TooMany(12), standard_in, order)
                continue
            told = self.told(standard_in, order)
            many = len(most_against(order))
            self.assertEqual(told is None, many < 3)
            if told is not None:
                self.assertEqual(len(told[0]), many)
                self.same_kind(told, tuple([tuple([0] * many)] * 2))
                self.standard_within(order, told)
                self.assertTrue(is_at_most((many, 1), full_cost(order)))

    def test_greatest_among_all_pairs(self):
        for order in some_orders(8, 6, 7) + [standard(3), standard(4)]:
            if len(tight_pairs(order)) > 12:
                continue
            pairs = all_pairs(order)
            rivals = {pair: {other for other in pairs if against(order, pair, other)} for pair in pairs}
            told = standard_in(order)
            many = len(told[0]) if told else 2
            self.assertFalse(any(all(b in rivals[a] for a, b in combinations(lot, 2))
                                 for lot in combinations(pairs, many + 1)) if many < 4 else False)

    def test_in_the_family_of_the_table(self):
        # [113]: k points, from each of which some lot has just the other ones.
        for order in small_orders()[1:] + some_orders(40, 6, 9) + [standard(3), standard(5), bent()]:
            ones = tight_ones(order)
            if order.size < 2 or len(ones) > 12:
                continue
            _, family, _ = table_of(order, ones)
            told = standard_in(order)
            for many in range(3, family.points + 1):
                there = any(all(any(set(lot) & set(chosen) == set(chosen) - {a} for lot in family.lots) for a in chosen)
                            for chosen in combinations(range(family.points), many))
                self.assertEqual(there, told is not None and len(told[0]) >= many)

    def test_too_many(self):
        self.fails(TooMany(12), standard_in, antichain(5))
        self.fails(TooMany(12), standard_in, antichain(16))
        self.gives(None, standard_in, antichain(4))
        self.gives(None, standard_in, ORDER)
        self.assertEqual(standard_in(Order(6, [(i, 3 + j) for i in range(3) for j in range(3) if i != j])),
                         ((0, 1, 2), (3, 4, 5)))
        self.assertEqual(len(standard_in(order_of(TRIANGLE))[0]), 3)


if __name__ == "__main__":
    unittest.main()
