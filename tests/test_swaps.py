"""linemix/swaps.py and [12]."""

import unittest
from itertools import combinations, permutations

from linemix.errors import BadLine, BadRow, OtherSize
from linemix.orders import Order
from linemix.shapes import antichain, chain
from linemix.swaps import swap_path, unlike_couples
from tests.support import Case, many_lines, plain_lines, small_orders, some_orders

ORDER = Order(4, [(0, 2), (1, 2), (1, 3)])


def plain_unlike(one, other):
    couples = combinations(range(len(one)), 2)
    return sum((one.index(x) < one.index(y)) != (other.index(x) < other.index(y)) for x, y in couples)


def fewest_swaps(lines, start):
    """The least number of exchanges of neighbours, over these lines only, from start to each of them."""
    far = {start: 0}
    front = [start]
    while front:
        near = []
        for line in front:
            for at in range(len(line) - 1):
                other = line[:at] + (line[at + 1], line[at]) + line[at + 2:]
                if other in lines and other not in far:
                    far[other] = far[line] + 1
                    near.append(other)
        front = near
    return far


class UnlikeTest(Case):
    def test_all_rows(self):
        for size in range(5):
            for one in permutations(range(size)):
                for other in permutations(range(size)):
                    self.gives(plain_unlike(one, other), unlike_couples, one, list(other))

    def test_sixteen(self):
        row = tuple(range(16))
        self.gives(120, unlike_couples, row, row[::-1])
        self.gives(0, unlike_couples, list(row), row)
        self.gives(15, unlike_couples, row, row[1:] + row[:1])
        self.gives(3, unlike_couples, (2, 1, 0), (0, 1, 2))
        self.gives(0, unlike_couples, (0,), [0])

    def test_refusals_in_their_order(self):
        for value in (None, 1, "01", {0}, {0: 1}, range(2)):
            self.fails(BadRow(-1), unlike_couples, value, None)
            self.fails(BadRow(-1), unlike_couples, (0, 1), value)
        for wrong in (-1, 3, True, False, None, 1.0, "1", (1,), [1]):
            self.fails(BadRow(1), unlike_couples, (0, wrong, 2), None)
            self.fails(BadRow(1), unlike_couples, (0, 1), (2, wrong, 0))
        self.fails(BadRow(2), unlike_couples, [0, 1, 1], None)
        self.fails(BadRow(0), unlike_couples, (1,), (0,))
        # Each row has as many places as it has entries itself.
        self.fails(BadRow(1), unlike_couples, (0, 1, 2), (0, 2))
        self.fails(OtherSize(2), unlike_couples, (0, 1, 2), (1, 0))
        self.fails(OtherSize(4), unlike_couples, (0, 1, 2), [3, 1, 2, 0])
        self.fails(OtherSize(0), unlike_couples, (0,), ())


class PathTest(Case):
    def path(self, order, one, other):
        path = self.told(swap_path, order, one, other)
        self.assertIs(type(path), list)
        self.assertEqual((path[0], path[-1]), (tuple(one), tuple(other)))
        self.assertEqual(len(path), plain_unlike(tuple(one), tuple(other)) + 1)
        steps = order.steps_told()
        for line in path:
            self.assertIs(type(line), tuple)
            self.assertTrue(all(line.index(low) < line.index(high) for low, high in steps))
        for line, following in zip(path, path[1:]):
            apart = [at for at in range(order.size) if line[at] != following[at]]
            self.assertEqual(len(apart), 2)
            self.assertEqual(apart[1], apart[0] + 1)
            self.assertTrue(order.are_open(line[apart[0]], line[apart[1]]))
        return path

    def test_all_lines_of_small_orders(self):
        for order in small_orders():
            lines = plain_lines(order)
            for one in lines:
                far = fewest_swaps(lines, one)
                for other in lines:
                    self.assertEqual(len(self.path(order, one, other)) - 1, far[other])

    def test_greater_orders(self):
        for order in some_orders(8, 5, 6):
            lines = plain_lines(order)
            for one in (lines[0], lines[len(lines) // 2]):
                for other in (lines[0], lines[-1]):
                    self.path(order, one, list(other))

    def test_sixteen_places(self):
        row = list(range(16))
        self.assertEqual(len(self.path(antichain(16), row, row[::-1])), 121)
        self.path(many_lines(), row, [10, 13, 14, 0, 2, 4, 6, 8, 9, 7, 5, 3, 1, 11, 12, 15])
        self.gives([tuple(row)], swap_path, chain(16), row, row)
        self.gives([(0,)], swap_path, chain(1), (0,), [0])

    def test_refusals_in_their_order(self):
        for value in (None, 1, "0123", {0}, range(4)):
            self.fails(BadRow(-1), swap_path, ORDER, value, None)
            self.fails(BadRow(-1), swap_path, ORDER, (0, 1, 2, 3), value)
        for wrong in (-1, 4, True, None, 1.0, "1"):
            self.fails(BadRow(1), swap_path, ORDER, (2, wrong, 0, 1), None)
            self.fails(BadRow(1), swap_path, ORDER, (0, 1, 2, 3), (2, wrong, 0, 1))
        self.fails(BadRow(3), swap_path, ORDER, (0, 1, 2), (0, 1, 2))
        self.fails(BadLine(1), swap_path, ORDER, (0, 2, 1, 3), None)
        self.fails(BadRow(1), swap_path, ORDER, (0, 1, 2, 3), (2, 2, 0, 1))
        self.fails(BadLine(0), swap_path, ORDER, (0, 1, 2, 3), (2, 3, 0, 1))

    def test_later_changes_have_no_effect(self):
        one, other = [0, 1], [1, 0]
        path = swap_path(antichain(2), one, other)
        one.clear()
        other.clear()
        self.assertEqual(path, [(0, 1), (1, 0)])


if __name__ == "__main__":
    unittest.main()
