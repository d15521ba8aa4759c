"""linemix/pointlots.py, with [111] and [112]."""

import random
import unittest
from itertools import combinations
from math import comb

from linemix.circles import circles_in, level_parts
from linemix.costs import cost, full_cost
from linemix.counts import Counts
from linemix.errors import BadLots, BadNumber, TooMany
from linemix.families import Family, family_cost, family_counts, family_worth, order_of
from linemix.numbers import is_at_most
from linemix.pointlots import family_bound, full_circle, graph_family, lots_of_size, ones_at
from linemix.rates import rate_tolls
from tests.families_support import plain_circles, plain_point_pairs, plain_rows, some_families
from tests.support import NO_LISTS, CostCase

NO_INTEGERS = (None, True, False, "3", 3.0, (3,), [3])
# All sets of one size for which costs are asked here: few enough point pairs.
SMALL = [(points, size) for points in range(2, 6) for size in range(1, points) if comb(points, size) * (points - size) <= 30]


class LotsOfSizeTest(CostCase):
    def test_all_sets(self):
        for points in range(1, 13):
            for size in range(points + 1):
                if comb(points, size) <= 60:
                    wanted = Family(points, list(combinations(range(points), size)))
                    self.gives(wanted, lots_of_size, points, size)
                else:
                    self.fails(TooMany(60), lots_of_size, points, size)

    def test_edges(self):
        self.gives(Family(12, [()]), lots_of_size, 12, 0)
        self.gives(Family(12, [tuple(range(12))]), lots_of_size, 12, 12)
        self.gives(Family(1, [(0,)]), lots_of_size, 1, 1)
        # 56 and 66 sets; no size of so few points has just 60 or 61.
        self.assertEqual(lots_of_size(8, 3).many, 56)
        self.fails(TooMany(60), lots_of_size, 12, 2)

    def test_costs(self):
        # [111]
        for points, size in SMALL:
            family = lots_of_size(points, size)
            ones = self.told(ones_at, family)
            self.assertEqual(family_cost(family, ones), (size + 1, 1))
            if points + family.many <= 16:
                order = order_of(family)
                self.assertEqual(full_cost(order), (size + 1, 1))
                self.assertEqual(cost(order, family_counts(family, ones)), (size + 1, 1))
            circles = circles_in(family, family.point_pairs())
            self.assertEqual(circles, list(combinations(range(points), size + 1)))
            self.assertEqual(level_parts(family, ones), [(circle, 1) for circle in circles])
            for turned in plain_rows(family):
                self.assertEqual(len(turned), len(circles))
            self.assertEqual(family_worth(family, ones)[0], len(circles))

    def test_rates_and_counts_of_circles(self):
        dice = random.Random("circles")
        for points, size in SMALL:
            family = lots_of_size(points, size)
            rates = [dice.randint(1, 9) for _ in range(points)]
            tolls, factor = rate_tolls(family, family.point_pairs(), rates)
            self.assertEqual(family_cost(family, tolls), (factor, 1))
            for most in (1, 4, 10 ** 28):
                numbers = {circle: dice.randint(0, most) for circle in combinations(range(points), size + 1)}
                counts = Counts([(a, j, numbers[tuple(sorted(lot + (a,)))]) for j, lot in enumerate(family.lots)
                                 for a in range(points) if a not in lot])
                self.assertEqual(family_cost(family, counts), ((size + 1) * max(numbers.values()), 1))
                for turned in plain_rows(family):
                    self.assertEqual(sum(counts[pair] for pair in turned), sum(numbers.values()))

    def test_refusals_in_their_order(self):
        for wrong in (0, 13, -1, 10 ** 30) + NO_INTEGERS:
            self.fails(BadNumber("points"), lots_of_size, wrong, -1)
        for points in (1, 5, 12):
            for wrong in (-1, points + 1, 10 ** 30) + NO_INTEGERS:
                self.fails(BadNumber("size"), lots_of_size, points, wrong)


class GraphTest(CostCase):
    def test_edges_in_the_order_told(self):
        for edges in ([], [(1, 0)], [(0, 1), (1, 2), (2, 0), (2, 3)], [[3, 2], (0, 3), [1, 3]]):
            self.gives(Family(4, edges), graph_family, 4, edges)
            self.gives(Family(4, edges), graph_family, 4, tuple(edges))
        self.assertEqual(graph_family(4, [(3, 0), (2, 1)]).lots, ((0, 3), (1, 2)))
        self.gives(Family(1, ()), graph_family, 1, [])

    def test_sixty_and_sixty_one_edges(self):
        edges = list(combinations(range(12), 2))
        self.assertEqual(graph_family(12, edges[:60]).many, 60)
        self.fails(TooMany(60), graph_family, 12, edges[:61])
        self.fails(TooMany(60), graph_family, 12, edges)
        self.fails(BadLots(61), graph_family, 12, edges[:61] + [(1, 0)])
        self.fails(BadLots(60), graph_family, 12, edges[:60] + [(1, 0), (3, 3)])
        self.fails(BadLots(62), graph_family, 12, edges[:62] + [(1,)])

    def test_refusals_in_their_order(self):
        for wrong in (0, 13, -1, 10 ** 30) + NO_INTEGERS:
            self.fails(BadNumber("points"), graph_family, wrong, None)
        for value in NO_LISTS:
            self.fails(BadLots(-1), graph_family, 4, value)
        for entry in (None, 1, "01", {0, 1}, (), (0,), (0, 1, 2), (0, 0), (0, 4), (-1, 0), (True, 0), (0, "1"), range(2)):
            self.fails(BadLots(1), graph_family, 4, [(0, 1), entry, (0, 1)])
        self.fails(BadLots(2), graph_family, 4, [(0, 1), (1, 2), [1, 0]])

    def test_triangles(self):
        # [112]
        dice = random.Random("graphs")
        for points in (3, 4, 5):
            couples = list(combinations(range(points), 2))
            for _ in range(8):
                edges = dice.sample(couples, dice.randint(1, min(len(couples), 30 // (points - 2))))
                family = graph_family(points, edges)
                has_triangle = any(set(combinations(three, 2)) <= set(edges) for three in combinations(range(points), 3))
                value = family_cost(family, ones_at(family))
                self.assertEqual(value == (3, 1), has_triangle)
                self.assertTrue(is_at_most(value, (3, 1)))
                self.assertEqual(family_bound(family), 3)
                self.assertEqual(full_circle(family) is not None, has_triangle)
        for family in (graph_family(2, [(0, 1)]), graph_family(3, [])):
            self.assertEqual(family_cost(family, ones_at(family)), (0, 1))

    def test_example(self):
        graph = graph_family(4, [(0, 1), (1, 2), (2, 0), (2, 3)])
        self.assertEqual((family_bound(graph), full_circle(graph), family_cost(graph, ones_at(graph))),
                         (3, (0, 1, 2), (3, 1)))


class FamilyBoundTest(CostCase):
    def test_by_their_words(self):
        # [112]
        both = set()
        for family in some_families(60, 1, 4) + [Family(3, [(0, 1, 2)]), Family(2, ()), Family(1, [()])]:
            pairs = plain_point_pairs(family)
            self.gives(Counts.at(pairs), ones_at, family)
            wanted = max([1 + len(family.lots[j]) for _, j in pairs], default=0)
            self.gives(wanted, family_bound, family)
            circles = sorted(circle for circle in plain_circles(family) if len(circle) == wanted)
            circle = self.gives(circles[0] if circles else None, full_circle, family)
            if len(pairs) <= 30:
                value = family_cost(family, ones_at(family))
                self.assertTrue(is_at_most(value, (wanted, 1)))
                self.assertEqual(value == (wanted, 1), circle is not None or not pairs)
            both.add((circle is None, bool(pairs)))
        self.assertEqual(both, {(True, True), (False, True), (True, False)})

    def test_the_first_ascending(self):
        # Circles are told ascending as tuples, not by size.
        family = Family(4, [(2, 3), (1, 3), (1, 2), (0, 3), (0, 2), ()])
        self.gives((0, 2, 3), full_circle, Family(4, [(2, 3), (1, 3), (1, 2), (0, 3), (0, 2)]))
        self.assertEqual(full_circle(family), (0, 2, 3))

    def test_great_families(self):
        family = lots_of_size(12, 1)
        self.gives(2, family_bound, family)
        self.gives((0, 1), full_circle, family)
        self.gives(12, family_bound, lots_of_size(12, 11))
        self.gives(tuple(range(12)), full_circle, lots_of_size(12, 11))
        self.gives(0, family_bound, lots_of_size(12, 12))
        self.gives(None, full_circle, lots_of_size(12, 12))
        self.gives(1, family_bound, lots_of_size(12, 0))
        self.gives((0,), full_circle, lots_of_size(12, 0))


if __name__ == "__main__":
    unittest.main()
