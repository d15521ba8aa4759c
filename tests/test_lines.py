"""linemix/lines.py, with [6]."""

import inspect
import unittest
from itertools import combinations, islice, permutations
from math import factorial

from linemix.errors import BadLine, BadNumber, BadRow, BadSet, TooMany
from linemix.lines import (
    carried_on, count_lines, cut_down, each_line, is_line, least_row, line_of, lines_of, lower_levels, lower_sets,
    ranks_of, row_of, row_told,
)
from linemix.orders import Order
from linemix.shapes import antichain, bent, chain, crown, stacked, standard
from tests.support import (
    Case, beside_all, five_thousand_lower_sets, keeps_steps, many_lines, plain_lines, plain_lower_sets, small_orders,
    some_orders, thousand_lines,
)

ORDER = Order(4, [(0, 2), (1, 2), (1, 3)])
NO_PLACES = (-1, 4, 10 ** 30, True, False, None, 1.0, "1", (1,), [1], {})
NO_LISTS = (None, 1, True, "0123", {0}, {0: 1}, range(4))


class EachLineTest(Case):
    def test_all_lines_ascending(self):
        for order in small_orders() + some_orders(15, 5, 7) + [bent(), crown(3)]:
            wanted = plain_lines(order)
            self.assertEqual(wanted, sorted(wanted))
            self.assertEqual(list(each_line(order)), wanted)

    def test_it_is_a_generator_of_tuples(self):
        self.assertTrue(inspect.isgeneratorfunction(each_line))
        lines = each_line(ORDER)
        self.assertEqual(next(lines), (0, 1, 2, 3))
        self.assertEqual(next(lines), (0, 1, 3, 2))
        self.assertEqual(len(list(lines)), 3)
        self.assertEqual(list(lines), [])

    def test_two_at_once(self):
        one, other = each_line(ORDER), each_line(ORDER)
        self.assertEqual(list(zip(one, other)), [(line, line) for line in lines_of(ORDER)])

    def test_first_lines_of_many(self):
        self.assertEqual(next(each_line(antichain(16))), tuple(range(16)))
        self.assertEqual(list(islice(each_line(antichain(16)), 4)), [
            tuple(range(13)) + end for end in ((13, 14, 15), (13, 15, 14), (14, 13, 15), (14, 15, 13))
        ])
        self.assertEqual(len(list(islice(each_line(many_lines()), 5000))), 5000)

    def test_one_line(self):
        self.assertEqual(list(each_line(chain(1))), [(0,)])
        self.assertEqual(list(each_line(chain(16))), [tuple(range(16))])
        self.assertEqual(list(each_line(~chain(16))), [tuple(range(15, -1, -1))])


class LinesOfTest(Case):
    def test_all(self):
        for order in small_orders() + some_orders(10, 5, 6):
            self.gives(plain_lines(order), lines_of, order)
            self.gives(plain_lines(order), lines_of, order, first=0)

    def test_the_first_ones(self):
        wanted = plain_lines(ORDER)
        for first in range(1, 8):
            self.gives(wanted[:first], lines_of, ORDER, first=first)
        self.gives(wanted, lines_of, ORDER, first=10 ** 30)
        self.gives([tuple(range(16))], lines_of, antichain(16), first=1)

    def test_one_thousand(self):
        order = thousand_lines()
        lines = self.told(lines_of, order)
        self.assertEqual((len(lines), count_lines(order)), (1000, 1000))
        self.assertEqual(lines, sorted(set(lines)))
        for first in (1000, 1001, 5000):
            self.gives(lines, lines_of, order, first=first)
        self.gives(lines[:999], lines_of, order, first=999)

    def test_more_than_one_thousand(self):
        order = chain(4) + chain(10)
        self.assertEqual(count_lines(order), 1001)
        self.fails(TooMany(1000), lines_of, order)
        self.fails(TooMany(1000), lines_of, order, first=1001)
        self.fails(TooMany(1000), lines_of, order, first=10 ** 30)
        self.assertEqual(len(lines_of(order, first=1000)), 1000)
        for wide in (antichain(16), many_lines()):
            self.fails(TooMany(1000), lines_of, wide)
            self.fails(TooMany(1000), lines_of, wide, first=1001)
            self.assertEqual(lines_of(wide, first=1000), list(islice(each_line(wide), 1000)))

    def test_bad_first(self):
        for first in (-1, True, False, None, 1.0, "1", [1], -10 ** 30):
            self.fails(BadNumber("first"), lines_of, ORDER, first=first)
            self.fails(BadNumber("first"), lines_of, antichain(16), first=first)

    def test_first_is_passed_by_keyword(self):
        with self.assertRaises(TypeError):
            lines_of(ORDER, 1)

    def test_a_list_that_was_returned_may_be_changed(self):
        lines_of(ORDER).clear()
        self.assertEqual(len(lines_of(ORDER)), 5)


class CountTest(Case):
    def test_small_orders(self):
        for order in small_orders() + some_orders(20, 5, 7) + [bent(), standard(3)]:
            self.gives(len(plain_lines(order)), count_lines, order)
            self.gives(plain_lower_sets(order), lower_sets, order)

    def test_lower_sets(self):
        self.gives([(), (0,), (1,), (0, 1), (1, 3), (0, 1, 2), (0, 1, 3), (0, 1, 2, 3)], lower_sets, ORDER)
        self.gives([(), (0,)], lower_sets, chain(1))
        self.gives([tuple(range(size)) for size in range(17)], lower_sets, chain(16))
        sets = self.told(lower_sets, many_lines())
        self.assertEqual(len(sets), 3888)
        self.assertEqual(sets, sorted(set(sets), key=lambda chosen: (len(chosen), chosen)))

    def test_many_lines(self):
        self.gives(factorial(16) // (2 ** 5 * 6 ** 2), count_lines, many_lines())
        self.assertGreater(count_lines(many_lines()), 10 ** 10)
        self.gives(factorial(16) // factorial(4) ** 4, count_lines, beside_all([chain(4)] * 4))
        self.gives(factorial(12), count_lines, antichain(12))
        self.gives(factorial(8) ** 2, count_lines, stacked([8, 8]))
        self.gives(factorial(16) // factorial(8) ** 2, count_lines, chain(8) + chain(8))

    def test_five_thousand_lower_sets(self):
        order = five_thousand_lower_sets()
        self.assertEqual(len(self.told(lower_sets, order)), 5000)
        self.assertGreater(self.told(count_lines, order), 10 ** 6)

    def test_more_lower_sets(self):
        # A least place more makes one lower set more: 5001.
        for order in (chain(1) >> five_thousand_lower_sets(), five_thousand_lower_sets() >> chain(1),
                      antichain(13), antichain(16)):
            self.fails(TooMany(5000), count_lines, order)
            self.fails(TooMany(5000), lower_sets, order)


class RowTest(Case):
    def test_row_of(self):
        for size in range(4):
            for row in permutations(range(size)):
                self.gives(row, row_of, row, size)
                self.gives(row, row_of, list(row), size)
        self.gives(tuple(range(15, -1, -1)), row_of, list(range(15, -1, -1)), 16)

    def test_row_of_refuses(self):
        for value in NO_LISTS:
            self.fails(BadRow(-1), row_of, value, 4)
        for wrong in NO_PLACES:
            self.fails(BadRow(0), row_of, [wrong], 4)
            self.fails(BadRow(2), row_of, (3, 0, wrong, wrong, 7), 4)
        self.fails(BadRow(2), row_of, (3, 0, 3, 1), 4)
        self.fails(BadRow(0), row_of, (), 1)
        self.fails(BadRow(3), row_of, [3, 0, 1], 4)
        self.fails(BadRow(4), row_of, [3, 0, 1, 2, 2], 4)
        self.fails(BadRow(0), row_of, [0], 0)
        self.fails(BadRow(2), row_of, [1, 0], 10 ** 30)

    def test_row_told(self):
        for row in ((), (0,), (2, 0, 1), tuple(range(39, -1, -1))):
            self.gives(row, row_told, row)
            self.gives(row, row_told, list(row))
        for value in NO_LISTS:
            self.fails(BadRow(-1), row_told, value)
        for wrong in NO_PLACES:
            self.fails(BadRow(2), row_told, (3, 0, wrong, 1))
        self.fails(BadRow(1), row_told, (1, 1))

    def test_ranks_of(self):
        self.gives({2: 0, 0: 1, 1: 2}, ranks_of, (2, 0, 1))
        self.gives({}, ranks_of, ())

    def test_least_row(self):
        # Places that need one another can't stand in a row.
        self.gives((1, 0, 2), least_row, [2, 0, 1], 7)
        self.gives(None, least_row, [2, 1, 0], 7)
        self.gives((2,), least_row, [2, 1, 0], 4)
        self.gives((), least_row, [1], 0)

    def test_lower_levels(self):
        for order in small_orders():
            levels = self.told(lower_levels, order)
            self.assertEqual(sum(len(level) for level in levels), len(lower_sets(order)))
            self.assertEqual(len(levels), order.size + 1)

    def test_later_changes_have_no_effect(self):
        value = [1, 0]
        row = row_of(value, 2)
        value.reverse()
        self.assertEqual(row, (1, 0))

    def test_lines(self):
        for order in small_orders():
            lines = plain_lines(order)
            for row in permutations(range(order.size)):
                self.gives(row in lines, is_line, order, row)
                self.gives(row in lines, is_line, order, list(row))
                early = [at for at, place in enumerate(row)
                         if any(order.is_below(behind, place) for behind in row[at + 1:])]
                if early:
                    self.fails(BadLine(early[0]), line_of, order, row)
                else:
                    self.gives(row, line_of, order, list(row))

    def test_the_place_below_may_stand_far_behind(self):
        self.fails(BadLine(0), line_of, ORDER, (2, 3, 1, 0))
        self.fails(BadLine(1), line_of, ORDER, (0, 3, 2, 1))
        self.fails(BadLine(1), line_of, Order(4, [(3, 1)]), [0, 1, 2, 3])
        self.fails(BadLine(0), line_of, chain(16), list(range(15, -1, -1)))

    def test_rows_are_checked_ahead_of_lines(self):
        for call in (line_of, is_line):
            for value in NO_LISTS:
                self.fails(BadRow(-1), call, ORDER, value)
            for wrong in NO_PLACES:
                self.fails(BadRow(2), call, ORDER, (2, 0, wrong, 1))
            self.fails(BadRow(1), call, ORDER, (2, 2, 0, 1))
            self.fails(BadRow(3), call, ORDER, (2, 0, 1))
            self.fails(BadRow(0), call, ORDER, ())
            self.fails(BadRow(4), call, ORDER, (2, 0, 1, 3, 4))


class CutTest(Case):
    def test_cut_down(self):
        self.gives((3, 1), cut_down, (3, 0, 1, 2), (1, 3))
        self.gives((3, 1), cut_down, [3, 0, 1, 2], [3, 1])
        self.gives((), cut_down, (3, 0), ())
        self.gives((), cut_down, [], [])
        self.gives((5, 9, 2), cut_down, (5, 9, 2), (2, 5, 9))
        for row in permutations((0, 2, 3, 7)):
            for many in range(5):
                for chosen in combinations((0, 2, 3, 7), many):
                    self.gives(tuple(place for place in row if place in chosen), cut_down, row, chosen[::-1])

    def test_cut_down_refuses(self):
        for value in NO_LISTS:
            self.fails(BadSet(-1), cut_down, (0, 1, 2), value)
        for wrong in (-1, 3, 4, True, False, None, 1.0, "1", (1,), [1], {}):
            self.fails(BadSet(0), cut_down, (1, 0, 2), [wrong])
            self.fails(BadSet(2), cut_down, [1, 0, 2], (2, 1, wrong, 5))
        self.fails(BadSet(1), cut_down, (1, 0, 2), (1, 1))
        self.fails(BadSet(0), cut_down, (), (0,))
        # The places that count are those of the row, not those of an order.
        self.fails(BadSet(1), cut_down, (5, 7), (7, 6))


class CarriedOnTest(Case):
    def carried(self, order, chosen, told):
        line = self.told(carried_on, order, chosen, told)
        self.assertIs(type(line), tuple)
        self.assertEqual(sorted(line), list(range(order.size)))
        self.assertTrue(keeps_steps(line, order.steps_told()))
        self.assertEqual(cut_down(line, chosen), tuple(told))

    def test_every_line_of_every_set(self):
        for order in small_orders() + some_orders(5, 5, 6):
            for many in range(order.size + 1):
                for chosen in combinations(range(order.size), many):
                    for row in permutations(chosen):
                        if not any(order.is_below(behind, row[at]) for at in range(many) for behind in row[at + 1:]):
                            self.carried(order, chosen, row)

    def test_lists_and_sets_in_any_order(self):
        self.carried(ORDER, [3, 0], [3, 0])
        self.carried(ORDER, (0, 3), (3, 0))
        self.carried(ORDER, [], [])
        self.carried(ORDER, (), ())
        self.carried(ORDER, (3, 2, 1, 0), (1, 3, 0, 2))

    def test_sixteen_places(self):
        self.carried(antichain(16), list(range(16)), list(range(15, -1, -1)))
        self.carried(many_lines(), (0, 2, 4, 15), (15, 4, 2, 0))
        self.carried(chain(16), (3, 9), (3, 9))

    def test_refusals_in_their_order(self):
        for value in NO_LISTS:
            self.fails(BadSet(-1), carried_on, ORDER, value, None)
            self.fails(BadRow(-1), carried_on, ORDER, (0, 1, 2, 3), value)
        for wrong in NO_PLACES:
            self.fails(BadSet(1), carried_on, ORDER, (0, wrong), None)
            self.fails(BadRow(1), carried_on, ORDER, (0, 2), (2, wrong))
        self.fails(BadSet(1), carried_on, ORDER, (0, 0), (0,))
        # Places of the order that are not in the set are wrong.
        self.fails(BadRow(0), carried_on, ORDER, (0, 2), (1, 0))
        self.fails(BadRow(1), carried_on, ORDER, (0, 2), (2, 3))
        self.fails(BadRow(1), carried_on, ORDER, (0, 2), (2, 2))
        self.fails(BadRow(1), carried_on, ORDER, (0, 2), (2,))
        self.fails(BadRow(0), carried_on, ORDER, (0, 2), ())
        self.fails(BadRow(0), carried_on, ORDER, (), (0,))
        self.fails(BadRow(2), carried_on, ORDER, (0, 2), (0, 2, 1))
        self.fails(BadLine(0), carried_on, ORDER, (0, 2), (2, 0))
        self.fails(BadLine(0), carried_on, ORDER, (2, 3, 1), (2, 3, 1))
        self.fails(BadLine(1), carried_on, ORDER, (0, 3, 1), (0, 3, 1))


if __name__ == "__main__":
    unittest.main()
