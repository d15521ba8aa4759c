"""What holds between the functions: [9] to [13], over all orders of one to four places."""

import unittest
from itertools import combinations, permutations, product
from math import comb, factorial, prod

from linemix.lines import (
    carried_on, count_lines, cut_down, each_line, is_line, line_of, lines_of, lower_sets,
)
from linemix.orders import Order
from linemix.shapes import antichain, bent, chain, crown
from linemix.swaps import swap_path, unlike_couples
from linemix.ties import single_ties, tie_path, tied, untied
from tests.support import Case, many_lines, orders_of, small_orders, some_orders


def open_couples(order):
    return [couple for couple in permutations(range(order.size), 2) if order.are_open(*couple)]


class LinesTest(Case):
    """[9] Lines determine an order."""

    def test_the_steps_are_what_all_lines_agree_on(self):
        for order in small_orders() + some_orders(10, 5, 6):
            lines = lines_of(order)
            for x, y in permutations(range(order.size), 2):
                over = [line.index(y) > line.index(x) for line in lines]
                self.assertIs(order.is_below(x, y), all(over))
                if order.are_open(x, y):
                    self.assertTrue(any(over) and not all(over))

    def test_unlike_orders_have_unlike_lines(self):
        for size in range(1, 5):
            rows = [tuple(lines_of(order)) for order in orders_of(size)]
            self.assertEqual(len(set(rows)), len(rows))

    def test_lines_of_sub_orders(self):
        for order in small_orders():
            for many in range(1, order.size + 1):
                for chosen in combinations(range(order.size), many):
                    sub = order.on(chosen)
                    cut = {tuple(chosen.index(place) for place in cut_down(line, chosen)) for line in each_line(order)}
                    self.assertEqual(sorted(cut), lines_of(sub))
                    for line in each_line(sub):
                        told = tuple(chosen[place] for place in line)
                        self.assertEqual(cut_down(carried_on(order, chosen, told), chosen), told)

    def test_lines_upside_down(self):
        for order in small_orders() + some_orders(10, 5, 6):
            self.assertEqual(sorted(line[::-1] for line in each_line(order)), lines_of(~order))

    def test_common_steps(self):
        for size in range(1, 4):
            for one, other in product(orders_of(size), repeat=2):
                both = one & other
                self.assertTrue(one.holds(both) and other.holds(both))
                self.assertLessEqual(set(lines_of(one)) | set(lines_of(other)), set(lines_of(both)))

    def test_functions_that_tell_lines_agree(self):
        for order in small_orders():
            lines = lines_of(order)
            self.assertEqual(lines, list(each_line(order)))
            self.assertEqual(len(lines), count_lines(order))
            for row in permutations(range(order.size)):
                self.assertIs(is_line(order, row), row in lines)
            for line in lines:
                self.assertEqual(line_of(order, line), line)


class TiesTest(Case):
    """[10] Ties and [11] From order to order."""

    def test_lines_are_divided(self):
        for order in small_orders():
            for u, v in open_couples(order):
                one, other = lines_of(tied(order, (u, v))), lines_of(tied(order, (v, u)))
                self.assertEqual(sorted(one + other), lines_of(order))
                self.assertFalse(set(one) & set(other))

    def test_numbers_of_lines_add_up(self):
        for order in some_orders(10, 5, 9) + [bent(), crown(4, reach=1)]:
            for u, v in open_couples(order):
                halves = [count_lines(tied(order, (u, v))), count_lines(tied(order, (v, u)))]
                self.assertEqual(sum(halves), count_lines(order))
        order = many_lines()
        self.assertEqual(count_lines(tied(order, (0, 15))) + count_lines(tied(order, (15, 0))), count_lines(order))

    def test_single_ties(self):
        for order in small_orders() + some_orders(15, 5, 10):
            singles = single_ties(order)
            for u, v in open_couples(order):
                subset = set(order.below(u)) <= set(order.below(v)) and set(order.above(v)) <= set(order.above(u))
                self.assertIs((u, v) in singles, subset)
                self.assertIs(len(tied(order, (u, v)).steps_told()) == len(order.steps_told()) + 1, subset)
            self.assertEqual(not singles, order.is_chain())

    def test_from_order_to_order(self):
        for size in range(1, 5):
            for other in orders_of(size):
                below = [order for order in orders_of(size) if other.holds(order)]
                for order in below:
                    path = tie_path(order, other)
                    self.assertEqual(len(path), len(list(other)) - len(list(order)))
                    self.assertEqual(tied(order, *path), other)
                    for at, step in enumerate(path):
                        on_the_way = tied(order, *path[:at])
                        self.assertIn(step, single_ties(on_the_way))
                        self.assertTrue(on_the_way.holds(order) and other.holds(on_the_way))

    def test_a_next_step_and_no_other_one_can_be_taken_away(self):
        for order in small_orders():
            steps = order.steps_told()
            for step in steps:
                rest = [other for other in steps if other != step]
                self.assertIs(Order(order.size, rest) == order, step not in order.next_steps())
                if step in order.next_steps():
                    less = untied(order, *step)
                    self.assertEqual(less, Order(order.size, rest))
                    self.assertIn(step, single_ties(less))


class SwapsTest(Case):
    """[12] Swaps."""

    def test_couples_in_unlike_order(self):
        for order in small_orders():
            lines = lines_of(order)
            for one, other in product(lines, repeat=2):
                unlike = [(x, y) for x, y in combinations(range(order.size), 2)
                          if (one.index(x) < one.index(y)) != (other.index(x) < other.index(y))]
                self.assertTrue(all(order.are_open(x, y) for x, y in unlike))
                self.assertEqual(unlike_couples(one, other), len(unlike))
                path = swap_path(order, one, other)
                self.assertEqual(len(path), len(unlike) + 1)
                self.assertTrue(all(is_line(order, line) for line in path))
                self.assertEqual([unlike_couples(a, b) for a, b in zip(path, path[1:])], [1] * len(unlike))


class CountsTest(Case):
    """[13] Counting lines."""

    def test_beginnings_of_lines_are_lower_sets(self):
        for order in small_orders():
            sets = lower_sets(order)
            begun = {tuple(sorted(line[:at])) for line in each_line(order) for at in range(order.size + 1)}
            self.assertEqual(begun, set(sets))
            for row in permutations(range(order.size)):
                beginnings = [tuple(sorted(row[:at])) for at in range(order.size + 1)]
                self.assertIs(is_line(order, row), all(begin in sets for begin in beginnings))

    def test_unions_and_intersections(self):
        for order in small_orders() + [bent(), crown(3)]:
            sets = lower_sets(order)
            for one, other in product(sets, repeat=2):
                self.assertIn(tuple(sorted(set(one) | set(other))), sets)
                self.assertIn(tuple(sorted(set(one) & set(other))), sets)

    def test_numbers_of_lower_sets(self):
        for one, other in product(orders_of(2) + orders_of(3), repeat=2):
            n, m = len(lower_sets(one)), len(lower_sets(other))
            self.assertEqual(len(lower_sets(one + other)), n * m)
            self.assertEqual(len(lower_sets(one >> other)), n + m - 1)

    def test_made_orders(self):
        for one, other in product(orders_of(2) + orders_of(3) + [bent(), chain(5)], repeat=2):
            both = count_lines(one) * count_lines(other)
            self.assertEqual(count_lines(one >> other), both)
            self.assertEqual(count_lines(one + other), both * comb(one.size + other.size, one.size))

    def test_chains_and_antichains(self):
        for size in range(1, 17):
            self.assertEqual(count_lines(chain(size)), 1)
        for size in range(1, 13):
            self.assertEqual(count_lines(antichain(size)), factorial(size))

    def test_products_of_two_chains(self):
        # The number of lines of such a product is known from the hooks of its places.
        for n, m in ((2, 2), (2, 5), (3, 4), (4, 4), (2, 8), (3, 5)):
            hooks = prod(i + j - 1 for i in range(1, n + 1) for j in range(1, m + 1))
            self.assertEqual(count_lines(chain(n) * chain(m)), factorial(n * m) // hooks)


if __name__ == "__main__":
    unittest.main()
