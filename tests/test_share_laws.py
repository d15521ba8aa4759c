"""What holds between the functions of section 7 and of the first points of section 8: [95], [99], [106], [113], [120]."""

import random
import unittest
from itertools import combinations

from linemix.calms import corners
from linemix.circles import standard_in
from linemix.costs import best_mix, cost, full_cost, tight_ones
from linemix.counts import Counts
from linemix.crowns import crown_cost, crown_level_counts
from linemix.families import family_cost, order_of, table_of
from linemix.filling import filled_in, place_in
from linemix.leading import tight_pairs
from linemix.lots import greatest_lots, most_against
from linemix.numbers import add_up, greater_of, is_at_most
from linemix.pointlots import lots_of_size, ones_at
from linemix.products import end_counts, with_ends
from linemix.putting import cross_counts, inner_counts, put_cost, put_in
from linemix.quiets import quiet_cost
from linemix.rates import lot_bound
from linemix.rings import least_rings
from linemix.rowing import row_cost
from linemix.shapes import antichain, bent, chain, crown, standard
from linemix.shares import ring_cost
from linemix.twochains import dearest_couple
from linemix.tworows import two_row_counts, two_rows
from linemix.wholes import dimension, whole_cost
from linemix.worths import worth
from tests.support import (
    CostCase, few_counts, flipped_plainly, many_lines, small_orders, some_lots, some_orders,
)

ORDERS = small_orders()[::6] + some_orders(8, 5, 6) + [standard(3), bent(), antichain(5)]


def moved_up(order, lot):
    """The pairs (x, n + y) for the pairs (x, y)."""
    return tuple((x, order.size + y) for x, y in lot)


class TwoRowsTest(CostCase):
    def test_rings_and_costs(self):
        # [95]
        for order in ORDERS + some_orders(4, 7, 8) + [standard(4), crown(4, reach=1), many_lines().on(tuple(range(8)))]:
            made = two_rows(order)
            for lot in some_lots(order, 2, 9):
                self.assertEqual(least_rings(made, moved_up(order, lot)),
                                 [moved_up(order, ring) for ring in least_rings(order, lot)])
                self.assertEqual(greatest_lots(made, moved_up(order, lot)),
                                 [moved_up(order, part) for part in greatest_lots(order, lot)])
            for lot in some_lots(order, 2, 5):
                self.assertEqual(corners(made, moved_up(order, lot)), corners(order, lot))
            for tolls in few_counts(order, 2, 9, 4):
                moved = two_row_counts(order, tolls)
                self.assertEqual(ring_cost(made, moved), ring_cost(order, tolls))
                self.assertEqual(quiet_cost(made, moved), quiet_cost(order, tolls))
                number, lot = dearest_couple(order, tolls)
                self.assertEqual(dearest_couple(made, moved), (number, moved_up(order, lot)))


class EndsInARowTest(CostCase):
    def test_ends(self):
        # [99]
        for order in ORDERS + [standard(4), crown(4, reach=1)]:
            for tolls in few_counts(order, 3, 8, 3) + few_counts(order, 2, 12, 2) + few_counts(order, 1, 6, 10 ** 28):
                couple = (dearest_couple(order, tolls)[0], 1)
                value = cost(order, tolls)
                for row in ([(tolls.greatest_count(), 1), couple, quiet_cost(order, tolls), value],
                            [couple, ring_cost(order, tolls), value]):
                    for one, other in zip(row, row[1:]):
                        self.assertTrue(is_at_most(one, other))
                if tolls.total_count() <= 24:
                    self.assertTrue(is_at_most(value, (whole_cost(order, tolls), 1)))

    def test_put_ins(self):
        # [99]
        parts = [chain(2), antichain(2), chain(1), antichain(3), standard(2)]
        for order in small_orders()[4::9] + [antichain(3), antichain(4)]:
            for shift in range(3):
                chosen = [parts[(shift + 2 * x) % 5] for x in range(order.size)]
                for tolls in few_counts(order, 2, 2, 3):
                    inner = [few_counts(part, 1, 2, 4)[0] for part in chosen]
                    self.put(order, chosen, tolls, inner)

    def put(self, order, parts, tolls, inner):
        counts = cross_counts(order, parts, tolls)
        for x, told in enumerate(inner):
            counts = counts + inner_counts(parts, x, told)
        if len(counts) > 12:
            return
        value = ring_cost(put_in(order, parts), counts)
        for one in [ring_cost(order, tolls)] + [ring_cost(part, told) for part, told in zip(parts, inner)]:
            self.assertTrue(is_at_most(one, value))
        self.assertTrue(is_at_most(value, put_cost(order, tolls, parts, inner)))


class StandardTest(CostCase):
    def test_standard_orders(self):
        # [106]
        dice = random.Random("standard orders")
        for k in range(2, 9):
            order = standard(k)
            for most in (1, 3, 10 ** 28):
                tolls = Counts([(i, k + i, dice.randint(0, most)) for i in range(k)])
                self.assertEqual(cost(order, tolls), (tolls.total_count(), 1))
                self.assertEqual(worth(order, tolls), tolls.greatest_count())
                if tolls.total_count() <= 24:
                    self.assertEqual(whole_cost(order, tolls), tolls.total_count())
            self.assertEqual([full_cost(order), dimension(order)], [(k, 1), k])

    def test_standard_orders_within(self):
        # [113]
        orders = ORDERS + some_orders(20, 6, 7) + [standard(4), standard(3) + chain(2), standard(3) >> antichain(2),
                                                   standard(4).on((0, 1, 2, 4, 5, 6, 7)), crown(4, reach=1), crown(5)]
        seen = set()
        for order in orders:
            if order.size < 2 or len(tight_pairs(order)) > 12:
                continue
            most = len(most_against(order))
            found = standard_in(order)
            self.assertEqual(found is not None, most >= 3)
            if found is not None:
                xs, ys = found
                self.assertEqual(len(xs), most)
                self.assertEqual(len(set(xs + ys)), 2 * most)
                for (i, x), (j, y) in combinations(list(enumerate(xs)) + [(at, y) for at, y in enumerate(ys)], 2):
                    self.assertEqual(order.are_open(x, y), not (x in xs and y in ys and i != j))
                self.assertTrue(all(order.is_below(xs[i], ys[j]) for i in range(most) for j in range(most) if i != j))
            self.assertTrue(is_at_most((most, 1), full_cost(order)) or order.is_chain())
            self.assertTrue(is_at_most(full_cost(order), (lot_bound(order), 1)))
            for k in range(3, order.size // 2 + 1):
                self.assertEqual(self.has_star(order, k), most >= k)
            seen.add(most)
        self.assertLessEqual({0, 2, 3, 4}, seen)

    def has_star(self, order, k):
        """Whether some k points of the table have, for each one of them, a lot with just the others of them."""
        _, family, _ = table_of(order, tight_ones(order))
        lots = [set(lot) for lot in family.lots]
        return any(all(any(lot & set(chosen) == set(chosen) - {a} for lot in lots) for a in chosen)
                   for chosen in combinations(range(family.points), k))


class ClosedFormsTest(CostCase):
    def tellings(self, order, tolls, wanted):
        """[59]: the tellings of a cost, where their bounds allow them."""
        self.assertEqual(cost(order, tolls), wanted)
        self.assertEqual(row_cost(order, tolls), wanted)
        self.assertEqual(cost(~order, flipped_plainly(tolls)), wanted)
        if len(tolls):
            _, family, counts = table_of(order, tolls)
            self.assertEqual(family_cost(family, counts), wanted)
        if order.size <= 6:
            self.assertEqual(cost(two_rows(order), two_row_counts(order, tolls)), wanted)
        self.assertEqual(best_mix(order, tolls).total, wanted)

    def test_crowns_put_in(self):
        # [120]: crowns, standard orders and lots of a size, put in for places.
        for order, parts, wanted in (
            (antichain(2), [crown(4, reach=1), chain(2)], (8, 3)),
            (antichain(2), [standard(3), antichain(2)], (3, 1)),
            (chain(2), [bent(), crown(3)], (3, 1)),
            (standard(3), [antichain(2), chain(2), chain(1), chain(1), antichain(2), chain(1)], (3, 1)),
            (chain(2), [crown(5, reach=2), chain(2)], (5, 2)),
            (bent(), [chain(1), chain(2), chain(1), antichain(2), chain(1), chain(1)], (5, 2)),
        ):
            made = put_in(order, parts)
            self.assertEqual(full_cost(made), wanted)
            value = full_cost(order)
            for part in parts:
                value = greater_of(value, full_cost(part))
            self.assertEqual(value, wanted)
            if len(tight_ones(made)) <= 24:
                self.tellings(made, tight_ones(made), wanted)

    def test_products_of_orders_with_ends(self):
        # [120]
        ended = [with_ends(antichain(2)), chain(3), chain(2), filled_in(antichain(2))]
        for one in ended:
            for other in ended:
                if one.size * other.size <= 16:
                    value = add_up(full_cost(one), full_cost(other))
                    counts = end_counts(one, other, tight_ones(one), tight_ones(other))
                    self.assertEqual(cost(one * other, counts), value)
                    if len(tight_pairs(one * other)) <= 30:
                        self.assertEqual(full_cost(one * other), value)

    def test_two_rows_and_filled_in(self):
        # [120]
        for k in (2, 3, 4):
            moved = two_row_counts(standard(k), tight_ones(standard(k)))
            self.assertEqual(cost(two_rows(standard(k)), moved), (k, 1))
        self.assertEqual(full_cost(filled_in(standard(3))), (3, 1))
        self.assertEqual(full_cost(filled_in(bent())), (5, 2))
        for order, many, numbers in ((crown(4, reach=1), 4, [2, 1]), (crown(5, reach=1), 5, [1, 3])):
            tolls = crown_level_counts(many, numbers, reach=1)
            self.tellings(order, tolls, cost(order, tolls))
        self.assertEqual(full_cost(crown(4, reach=1)), crown_cost(4, reach=1))
        for order in (antichain(3), standard(2), chain(3)):
            tolls = tight_ones(order)
            made = filled_in(order)
            put = Counts([(place_in(order, x), place_in(order, y), toll) for x, y, toll in tolls])
            self.assertEqual(cost(made, put), cost(order, tolls))

    def test_lots_of_a_size(self):
        # [120] and [111]
        for points, size in ((3, 1), (3, 2), (4, 1), (4, 2), (4, 3), (5, 1)):
            family = lots_of_size(points, size)
            self.tellings(order_of(family), tight_ones(order_of(family)), (size + 1, 1))
            self.assertEqual(family_cost(family, ones_at(family)), (size + 1, 1))


if __name__ == "__main__":
    unittest.main()
