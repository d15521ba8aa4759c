"""linemix/rowing.py, with [46] to [48] and [60]."""

import unittest
from itertools import permutations

from linemix.costs import cost
from linemix.counts import Counts
from linemix.errors import BadRow, BadSet, TooMany, Unfit
from linemix.leading import leads
from linemix.lines import is_line, lines_of
from linemix.orders import Order
from linemix.pairs import all_pairs
from linemix.rings import is_turnable
from linemix.rowing import chosen_turns, line_of_row, row_cost, row_turns, row_turns_back, row_worth
from linemix.shapes import antichain, bent, chain, standard
from linemix.worths import worth
from tests.support import (
    NO_LISTS, ORDER, CostCase, few_counts, five_thousand_lower_sets, lots_within, many_lines, small_orders, some_counts,
    some_orders, turned_by,
)

BIG = 10 ** 30


def plain_turns(order, row):
    """row_turns by its words; of a row of some places, too."""
    return tuple([(x, y) for x, y in all_pairs(order) if x in row and all(
        row.index(place) < row.index(x) for place in row if order.is_under(place, y))])


def plain_turns_back(order, row):
    """row_turns_back by its words."""
    return tuple([(x, y) for x, y in all_pairs(order) if all(
        row.index(y) < row.index(place) for place in row if order.is_under(x, place))])


class RowTurnsTest(CostCase):
    def test_example(self):
        order = Order(3, [(1, 2)])
        self.assertEqual([row_turns(order, (2, 0, 1)), row_turns_back(order, (2, 0, 1))], [((1, 0),), ((0, 2),)])

    def test_all_rows_of_small_orders(self):
        for order in small_orders()[::2]:
            for row in permutations(range(order.size)):
                turned = self.gives(plain_turns(order, row), row_turns, order, row)
                back = self.gives(plain_turns_back(order, row), row_turns_back, order, list(row))
                self.assertTrue(is_turnable(order, turned) and is_turnable(order, back))
                line = self.told(line_of_row, order, row)
                self.assertIs(type(line), tuple)
                self.assertTrue(is_line(order, line))
                self.assertLessEqual(set(turned), turned_by(line))
                if is_line(order, row):
                    self.assertEqual(turned, tuple(pair for pair in all_pairs(order) if pair in turned_by(row)))
                    self.assertEqual(back, turned)
                self.assertEqual(row_turns(~order, row[::-1]), tuple(sorted((y, x) for x, y in back)))

    def test_both_lots_together_need_not_be_turnable(self):
        order = Order(4, [(0, 1), (2, 3)])
        together = [row for row in permutations(range(4)) if not is_turnable(
            order, sorted({*row_turns(order, row), *row_turns_back(order, row)}))]
        self.assertTrue(together)
        self.assertFalse([row for row in together if is_line(order, row)])

    def test_sixteen_places(self):
        for order in (many_lines(), standard(8), chain(16), antichain(16)):
            for row in (tuple(range(16)), tuple(range(15, -1, -1)), tuple(at * 5 % 16 for at in range(16))):
                turned = self.gives(plain_turns(order, row), row_turns, order, row)
                self.gives(plain_turns_back(order, row), row_turns_back, order, row)
                self.assertLessEqual(set(turned), turned_by(line_of_row(order, row)))

    def test_one_place(self):
        for call in (row_turns, row_turns_back):
            self.gives((), call, chain(1), (0,))
        self.gives((0,), line_of_row, chain(1), [0])

    def test_turnable_lots_lie_in_some_of_them(self):
        # [47]
        for order in small_orders()[::9]:
            rows = [set(row_turns(order, row)) for row in permutations(range(order.size))]
            for lot in lots_within(all_pairs(order), 3):
                held = any(turned.issuperset(lot) for turned in rows)
                self.assertEqual(held, is_turnable(order, lot))
                top, bottom = cost(order, Counts.at(lot))
                self.assertEqual(held, top <= bottom)

    def test_refusals(self):
        for call in (row_turns, row_turns_back, line_of_row):
            for value in NO_LISTS:
                self.fails(BadRow(-1), call, ORDER, value)
            for row, place in (((0, 1, 2, 4), 3), ((0, 1, 1, 2), 2), ((True, 0, 2, 3), 0), ((0, 1, 2), 3), ((), 0),
                               ((0, 1, 2, 3, 3), 4), ((0, None, 2, 3), 1), ((0, -1, 2, 3), 1), ((3, 2, 1.0, 0), 2)):
                self.fails(BadRow(place), call, ORDER, row)


class ChosenTurnsTest(CostCase):
    def test_by_its_words(self):
        for order in small_orders()[::3] + [bent()]:
            for chosen in lots_within(range(order.size), order.size):
                for row in list(permutations(chosen))[::2]:
                    turned = self.gives(plain_turns(order, row), chosen_turns, order, chosen, row)
                    self.assertTrue(is_turnable(order, turned))
                    if len(chosen) == order.size:
                        self.assertEqual(turned, row_turns(order, row))

    def test_by_hand(self):
        self.gives((), chosen_turns, ORDER, (), ())
        self.gives((), chosen_turns, chain(1), [], [])
        # Nothing of 2 is under 1 or 3: each row turns these pairs.
        self.gives(((2, 0), (2, 1), (2, 3)), chosen_turns, ORDER, (2,), (2,))
        self.gives(((1, 0),), chosen_turns, ORDER, [1, 0], [0, 1])
        self.gives(((0, 1), (0, 3)), chosen_turns, ORDER, [1, 0], (1, 0))

    def test_refusals(self):
        for value in NO_LISTS:
            self.fails(BadSet(-1), chosen_turns, ORDER, value, None)
            self.fails(BadRow(-1), chosen_turns, ORDER, (0, 2), value)
        for chosen, place in (((4,), 0), ((0, 0), 1), ((True,), 0), ((1, -1), 1), ((0, "1"), 1)):
            self.fails(BadSet(place), chosen_turns, ORDER, chosen, (9,))
        for row, place in (((1, 2), 0), ((2, 2), 1), ((2, 1), 1), ((2,), 1), ((), 0), ((2, 0, 0), 2), ((2, 0, 3), 2),
                           ((2, False), 1), ((2, None), 1)):
            self.fails(BadRow(place), chosen_turns, ORDER, (0, 2), row)
        self.fails(BadRow(0), chosen_turns, ORDER, (), (0,))


class RowCostTest(CostCase):
    def test_is_the_cost(self):
        for order in small_orders() + some_orders(20, 5, 6) + [bent(), standard(3)]:
            for tolls in few_counts(order, 2, 4, 5) + few_counts(order, 1, 10, 2):
                self.gives(cost(order, tolls), row_cost, order, tolls)

    def test_more_than_lower_sets_allow(self):
        # [60]: this bound is not asked here.
        ring = [(x, (x + 1) % 12) for x in range(12)]
        self.gives((12, 11), row_cost, antichain(16), Counts.at(ring))
        ring = [(15, 14), (14, 0), (0, 15)]
        self.gives((3 * BIG // 2, 1), row_cost, antichain(16), Counts.at(ring, number=BIG))
        self.gives((0, 1), row_cost, antichain(16), Counts())

    def test_same_over_rows_with_many_lower_sets(self):
        for order in (many_lines(), five_thousand_lower_sets()):
            for tolls in few_counts(order, 4, 9, 10 ** 28):
                self.gives(cost(order, tolls), row_cost, order, tolls)

    def test_refusals(self):
        self.fails(Unfit(0, 2), row_cost, ORDER, Counts([(0, 2, 1)]))
        order = antichain(16)
        self.fails(Unfit(16, 0), row_cost, order, Counts([(x, (x + y) % 16, 1) for x in range(12) for y in range(1, 4)]
                                                         + [(16, 0, 1)]))
        pairs = [(x, (x + y) % 16) for y in range(1, 4) for x in range(16)]
        twelve = [pair for pair in pairs if pair[0] < 12]
        self.assertEqual(len(row_cost(order, Counts.at(twelve[:30]))), 2)
        self.fails(TooMany(30), row_cost, order, Counts.at(twelve[:31]))
        self.fails(TooMany(12), row_cost, order, Counts.at(pairs[:13]))
        self.fails(TooMany(30), row_cost, order, Counts.at(pairs[:31]))
        # A count of 0 tolls no pair.
        self.gives((12, 1), row_cost, order, Counts([(x, 15, 12 - x) for x in range(13)]))


class RowWorthTest(CostCase):
    def rich(self, order, weights):
        number, row = self.told(row_worth, order, weights)
        self.assertIs(type(number), int)
        self.assertIs(type(row), tuple)
        self.assertEqual(sorted(row), list(range(order.size)))
        self.assertEqual(sum(weights[pair] for pair in row_turns(order, row)), number)
        return number

    def test_is_the_worth(self):
        for order in small_orders() + some_orders(10, 5, 6) + [bent(), many_lines()]:
            for weights in some_counts(order, 2, 5) + few_counts(order, 1, 3, BIG) + [Counts()]:
                if len({x for x, _, _ in weights}) <= 12:
                    self.assertEqual(self.rich(order, weights), worth(order, weights))

    def test_by_a_look_at_all_rows(self):
        for order in small_orders()[::5]:
            rows = [row_turns(order, row) for row in permutations(range(order.size))]
            for weights in some_counts(order, 2, 5):
                self.assertEqual(self.rich(order, weights), max(sum(weights[pair] for pair in lot) for lot in rows))

    def test_sixteen_places(self):
        order = antichain(16)
        weights = Counts([(x, y, 1) for x in range(12) for y in range(16) if x != y])
        self.assertEqual(self.rich(order, weights), 12 * 4 + 12 * 11 // 2)
        self.assertEqual(self.rich(order, Counts()), 0)

    def test_refusals(self):
        self.fails(Unfit(0, 2), row_worth, ORDER, Counts([(0, 2, 1)]))
        order = antichain(16)
        self.fails(TooMany(12), row_worth, order, Counts([(x, 15, 1) for x in range(13)]))
        self.fails(Unfit(13, 13), row_worth, order, Counts([(x, 15, 1) for x in range(13)] + [(13, 13, 1)]))
        self.assertEqual(self.rich(order, Counts([(x, 15, x) for x in range(13)])), 78)


class LeadingTest(CostCase):
    def test_what_is_led_is_turned_too(self):
        for order in small_orders()[::9]:
            for row in permutations(range(order.size)):
                turned = row_turns(order, row)
                for pair in turned:
                    for other in all_pairs(order):
                        if leads(order, pair, other) and is_line(order, row):
                            self.assertIn(other, turned)

    def test_costs_over_lines_and_rows(self):
        # Each row turns what some line turns, so lines are enough.
        for order in small_orders()[::9]:
            lots = [turned_by(line) for line in lines_of(order)]
            for row in permutations(range(order.size)):
                self.assertTrue(any(lot.issuperset(row_turns(order, row)) for lot in lots))


if __name__ == "__main__":
    unittest.main()
