"""linemix/families.py, with [49], [50] and [60]."""

import unittest
from itertools import permutations

from linemix.costs import cost, tight_ones
from linemix.counts import Counts
from linemix.errors import BadLots, BadNumber, BadRow, BadSet, NoPairs, TooMany, Unfit
from linemix.families import Family, family_cost, family_counts, family_mix, family_worth, order_of, table_of
from linemix.lines import row_of
from linemix.mixes import Mix
from linemix.pairs import all_pairs
from linemix.rowing import chosen_turns
from linemix.shapes import antichain, bent, chain, standard
from linemix.worths import worth
from tests.families_support import (
    TRIANGLE, all_sets, plain_point_pairs, plain_row_pairs, plain_rows, point_counts, sixty_lots, some_families,
)
from tests.support import (
    NO_LISTS, ORDER, CostCase, as_lists, few_counts, five_thousand_lower_sets, many_lines, small_orders,
    some_orders,
)

BIG = 10 ** 30
FAMILIES = some_families(25, 1, 5) + [TRIANGLE, Family(1, [()]), Family(1, [(0,)]), Family(2, [(), (0,), (1,), (0, 1)])]


class FamilyTest(CostCase):
    def test_attributes(self):
        family = Family(4, [[2, 0], (), (3,), [1, 3, 2]])
        self.assertEqual(family.points, 4)
        self.assertEqual(family.lots, ((0, 2), (), (3,), (1, 2, 3)))
        self.same_kind(family.lots, ((0, 2), (), (3,), (1, 2, 3)))
        self.assertEqual(family.many, 4)
        self.assertEqual((Family(12, []).many, Family(12, ()).lots, Family(1, [()]).lots), (0, (), ((),)))
        self.assertEqual(sixty_lots().many, 60)

    def test_later_changes_have_no_effect(self):
        lot = [1, 0]
        lots = [lot, [2]]
        family = Family(3, lots)
        lot.append(2)
        lots.append([0])
        self.assertEqual(family.lots, ((0, 1), (2,)))
        self.assertEqual(family.point_pairs(), ((0, 1), (1, 1), (2, 0)))

    def test_point_pairs(self):
        for family in FAMILIES + [sixty_lots(), Family(12, [])]:
            self.gives(tuple(plain_point_pairs(family)), family.point_pairs)

    def test_lot_number(self):
        for family in FAMILIES:
            for chosen in all_sets(family.points):
                wanted = family.lots.index(chosen) if chosen in family.lots else None
                self.gives(wanted, family.lot_number, chosen)
                self.gives(wanted, family.lot_number, list(chosen)[::-1])
        for value in NO_LISTS:
            self.fails(BadSet(-1), TRIANGLE.lot_number, value)
        for value, place in (((3,), 0), ((0, 0), 1), ((0, True), 1), ((1, -1), 1), ((None,), 0)):
            self.fails(BadSet(place), TRIANGLE.lot_number, value)

    def test_row_pairs(self):
        for family in FAMILIES:
            for row in list(permutations(range(family.points)))[::3]:
                self.gives(tuple(plain_row_pairs(family, row)), family.row_pairs, row)
                self.gives(tuple(plain_row_pairs(family, row)), family.row_pairs, list(row))
        for value in NO_LISTS:
            self.fails(BadRow(-1), TRIANGLE.row_pairs, value)
        for value, place in (((0, 1), 2), ((0, 1, 3), 2), ((0, 0, 1), 1), ((True, 0, 2), 0), ((0, 1, 2, 2), 3), ((), 0)):
            self.fails(BadRow(place), TRIANGLE.row_pairs, value)

    def test_the_empty_lot_is_always_turned(self):
        family = Family(3, [(0, 1), ()])
        for row in permutations(range(3)):
            self.assertLessEqual({(0, 1), (1, 1), (2, 1)}, set(family.row_pairs(row)))

    def test_equal(self):
        self.assertTrue(Family(3, [(0, 1), [2]]) == Family(3, ([1, 0], (2,))))
        self.assertFalse(Family(3, [(0, 1), (2,)]) == Family(3, [(2,), (0, 1)]))
        self.assertFalse(Family(3, [(0, 1)]) == Family(4, [(0, 1)]))
        self.assertFalse(Family(3, []) == Family(3, [()]))
        self.assertTrue(Family(3, [(0, 1)]) != Family(3, [(0, 2)]))
        for value in (None, 3, (3, ()), [], Family, chain(3), Counts()):
            self.assertIs(Family(3, []) == value, False)
            self.assertIs(value == Family(3, []), False)

    def test_refusals(self):
        for points in (0, 13, -1, True, False, None, "3", 1.0, (3,), 10 ** 30):
            self.fails(BadNumber("points"), Family, points, None)
        for lots in NO_LISTS:
            self.fails(BadLots(-1), Family, 3, lots)
        for lots, place in (
            ([(0,), 1], 1), ([(0,), None], 1), ([(0,), "1"], 1), ([{0}], 0), ([(0, 0)], 0), ([(0, 3)], 0), ([(-1,)], 0),
            ([(True,)], 0), ([(0,), (1, False)], 1), ([(0, 1), (2,), [1, 0]], 2), ([(), []], 1), ([(), (0.0,)], 1),
            ([range(2)], 0), ([[None]], 0), ([(0,)] * 70, 1), ([((0,),)], 0),
        ):
            self.fails(BadLots(place), Family, 3, lots)
        sets = [chosen for chosen in all_sets(12) if len(chosen) == 2]
        self.assertEqual(Family(12, sets[:60]).many, 60)
        self.fails(TooMany(60), Family, 12, sets[:61])
        self.fails(BadLots(61), Family, 12, sets[:61] + [(12,)])


class FamilyCostTest(CostCase):
    def shown_in_family(self, family, tolls, rows=None):
        """The cost, shown by a mix of rows and by the paper of the order of the family."""
        value = self.told(family_cost, family, tolls)
        self.fraction(value)
        mix = self.told(family_mix, family, tolls)
        self.assertIs(type(mix), Mix)
        self.assertEqual(mix.total, value)
        for row, number in mix:
            self.assertEqual(row_of(row, family.points), row)
        for a, j, toll in tolls:
            paid = sum(number for row, number in mix
                       if all(row.index(point) < row.index(a) for point in family.lots[j]))
            self.assertGreaterEqual(paid, toll * mix.bottom)
        if family.points + family.many <= 12:
            self.assertEqual(value, cost(order_of(family), family_counts(family, tolls)))
        return value

    def test_small_families(self):
        for family in FAMILIES:
            for tolls in point_counts(family, 2, 4, 5) + point_counts(family, 1, 30, 2) + [Counts()]:
                self.shown_in_family(family, tolls)

    def test_example(self):
        self.assertEqual(self.shown_in_family(TRIANGLE, Counts([(0, 2, 1), (1, 1, 2), (2, 0, 3)])), (6, 1))

    def test_nothing_to_pay(self):
        for family in (Family(1, []), Family(12, []), Family(3, [()]), sixty_lots()):
            self.gives((0, 1), family_cost, family, Counts())
            self.assertEqual(list(family_mix(family, Counts())), [])
            self.gives((0, 1), family_cost, family, Counts([(0, 0, 0), (77, 99, 0)]))
        self.gives((7, 1), family_cost, Family(3, [()]), Counts([(0, 0, 3), (2, 0, 7)]))

    def test_twelve_points(self):
        for family in [sixty_lots()] + some_families(3, 12, 12):
            for tolls in point_counts(family, 3, 30, 10 ** 28) + point_counts(family, 2, 30, 2):
                self.shown_in_family(family, tolls)
        ring = Family(12, [(at,) for at in range(12)])
        self.assertEqual(self.shown_in_family(ring, Counts([(at, (at + 1) % 12, 1) for at in range(12)])), (12, 11))

    def test_worth(self):
        for family in FAMILIES:
            rows = plain_rows(family)
            for weights in point_counts(family, 2, 4, 5) + point_counts(family, 1, 99, BIG) + [Counts()]:
                number, row = self.told(family_worth, family, weights)
                self.assertEqual(number, max(sum(weights[pair] for pair in turned) for turned in rows))
                self.assertEqual(sum(weights[pair] for pair in family.row_pairs(row)), number)
                self.assertIs(type(row), tuple)
                self.assertIs(type(number), int)

    def test_worth_of_all_point_pairs(self):
        family = sixty_lots()
        weights = Counts.at(family.point_pairs())
        number, row = family_worth(family, weights)
        self.assertEqual(len(family.row_pairs(row)), number)
        self.assertGreaterEqual(number, max(len(family.row_pairs(tuple(range(at, 12)) + tuple(range(at))))
                                            for at in range(12)))

    def test_refusals(self):
        for call in (family_cost, family_mix, family_worth, family_counts):
            for counts, a, j in (([(0, 0, 1)], 0, 0), ([(0, 2, 1), (0, 3, 1)], 0, 3), ([(3, 0, 1), (2, 2, 1)], 2, 2),
                                 ([(3, 0, 1)], 3, 0), ([(0, 0, 0), (9, 9, 2)], 9, 9)):
                self.fails(Unfit(a, j), call, TRIANGLE, Counts(counts))
        family = sixty_lots()
        pairs = family.point_pairs()
        for call in (family_cost, family_mix):
            self.fails(TooMany(30), call, family, Counts.at(pairs[:31]))
            self.fails(Unfit(0, 0), call, family, Counts.at(pairs[:31]).with_count(0, 0, 1))
            self.assertIsNotNone(call(family, Counts.at(pairs[:30])))
        self.assertEqual(len(family_worth(family, Counts.at(pairs[:31]))), 2)
        self.assertEqual(len(family_counts(family, Counts.at(pairs))), len(pairs))


class OrderOfTest(CostCase):
    def test_steps(self):
        for family in FAMILIES:
            order = self.told(order_of, family)
            self.assertEqual(order.size, family.points + family.many)
            wanted = [(a, family.points + j) for a in range(family.points) for j in range(family.many)
                      if a in family.lots[j]]
            self.assertEqual(list(order), wanted)

    def test_size(self):
        self.assertEqual(order_of(Family(12, [(at,) for at in range(4)])).size, 16)
        self.fails(BadNumber("size"), order_of, Family(12, [(at,) for at in range(5)]))
        self.fails(BadNumber("size"), order_of, sixty_lots())
        self.assertEqual(order_of(Family(1, [])), chain(1))

    def test_counts(self):
        for family in FAMILIES:
            for counts in point_counts(family, 2, 5, 9):
                made = self.told(family_counts, family, counts)
                self.assertEqual(list(made), [(a, family.points + j, number) for a, j, number in counts])
        self.assertEqual(list(family_counts(sixty_lots(), Counts([(0, 59, 2)]))), [(0, 71, 2)])

    def test_worths(self):
        for family in FAMILIES:
            for weights in point_counts(family, 2, 6, 9):
                self.assertEqual(family_worth(family, weights)[0],
                                 worth(order_of(family), family_counts(family, weights)))


class TableOfTest(CostCase):
    def test_example(self):
        chosen, family, counts = table_of(ORDER, tight_ones(ORDER))
        self.assertEqual([chosen, family.lots, list(counts)],
                         [(0, 1, 3), ((0,), (0, 1), (1, 2)), [(0, 2, 1), (1, 0, 1), (2, 1, 1)]])

    def test_by_its_words(self):
        for order in small_orders()[1::2] + some_orders(15, 5, 7) + [bent(), standard(4)]:
            for tolls in few_counts(order, 2, 5, 4) + few_counts(order, 1, 12, 3):
                self.table(order, tolls)

    def table(self, order, tolls):
        chosen, family, counts = self.told(table_of, order, tolls)
        self.assertEqual(chosen, tuple(sorted({x for x, _, _ in tolls})))
        lots = []
        for y in sorted({y for _, y, _ in tolls}):
            lot = tuple(at for at, place in enumerate(chosen) if order.is_under(place, y))
            if lot not in lots:
                lots.append(lot)
        self.assertIs(type(family), Family)
        self.assertEqual((family.points, family.lots), (len(chosen), tuple(lots)))
        became = {}
        for x, y, toll in tolls:
            lot = tuple(at for at, place in enumerate(chosen) if order.is_under(place, y))
            became.setdefault((chosen.index(x), lots.index(lot)), []).append(toll)
        self.assertEqual(list(counts), [(a, j, max(became[a, j])) for a, j in sorted(became)])
        self.assertEqual(family_cost(family, counts), cost(order, tolls))
        sums = Counts([(a, j, sum(became[a, j])) for a, j in became])
        self.assertEqual(family_worth(family, sums)[0], worth(order, tolls))

    def test_equal_lots_once(self):
        # What of 2 and 3 is under 0 and 1 is nothing: both y have one lot.
        chosen, family, counts = table_of(antichain(4), Counts([(2, 0, 3), (2, 1, 5), (3, 1, 2), (3, 2, 1)]))
        self.assertEqual((chosen, family.lots, list(counts)), ((2, 3), ((), (0,)), [(0, 0, 5), (1, 0, 2), (1, 1, 1)]))

    def test_sure_pairs(self):
        chosen, family, counts = table_of(chain(3), Counts([(2, 0, 3), (1, 0, 1), (2, 1, 4)]))
        self.assertEqual((chosen, family.lots, list(counts)), ((1, 2), ((), (0,)), [(0, 0, 1), (1, 0, 3), (1, 1, 4)]))

    def test_many_lines(self):
        for order in (many_lines(), five_thousand_lower_sets()):
            for tolls in few_counts(order, 3, 10, 10 ** 28):
                self.table(order, tolls)

    def test_refusals(self):
        self.fails(Unfit(0, 2), table_of, ORDER, Counts([(0, 2, 1)]))
        for order in (ORDER, chain(1), antichain(16)):
            self.fails(NoPairs(), table_of, order, Counts())
            self.fails(NoPairs(), table_of, order, Counts([(0, 2, 0)]))
        order = antichain(16)
        self.fails(TooMany(12), table_of, order, Counts([(x, 15, 1) for x in range(13)]))
        chosen, family, counts = table_of(order, Counts([(x, 15, 1) for x in range(12)]))
        self.assertEqual((len(chosen), family.lots, len(counts)), (12, ((),), 12))
        # Neither the number of tolls nor that of lower sets is bounded.
        many = Counts([(x, y, 1 + y) for x, y in all_pairs(order) if x < 12])
        chosen, family, counts = table_of(order, many)
        self.assertEqual((family.many, len(counts)), (13, 12 * 12))

    def test_rows_of_the_table_turn_what_rows_of_the_places_turn(self):
        # [48], [50]: a row of N turns the pair exactly if the row of points turns what the pair becomes.
        for order in small_orders()[1::7]:
            tolls = Counts.at(all_pairs(order)[::2])
            chosen, family, _ = table_of(order, tolls)
            for row in permutations(range(family.points)):
                turned = chosen_turns(order, chosen, [chosen[at] for at in row])
                for x, y, _ in tolls:
                    lot = [at for at, place in enumerate(chosen) if order.is_under(place, y)]
                    pair = (chosen.index(x), family.lot_number(lot))
                    self.assertEqual((x, y) in turned, pair in family.row_pairs(row))

    def test_lists(self):
        self.assertEqual(Family(3, as_lists(TRIANGLE.lots)), TRIANGLE)


if __name__ == "__main__":
    unittest.main()
