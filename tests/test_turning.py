"""linemix/turning.py, with [16] and [19]."""

import unittest
from itertools import permutations

from linemix.errors import BadLine, BadPair, BadRow
from linemix.lines import is_line, lines_of
from linemix.orders import Order
from linemix.pairs import all_pairs, open_pairs, sure_pairs
from linemix.shapes import antichain, chain
from linemix.turning import Turner, line_for, turns
from tests.support import (
    NO_LISTS, NO_PAIRS, ORDER, Case, is_turned, lots_within, many_lines, plain_pairs, small_orders, some_lots,
    some_orders, turned_by, turned_sets,
)


class TurnsTest(Case):
    def test_rows(self):
        for size in range(2, 5):
            for row in permutations(range(size)):
                for x, y in permutations(range(size), 2):
                    wanted = (x, y) in turned_by(row)
                    self.gives(wanted, turns, row, (x, y))
                    self.gives(wanted, turns, list(row), [x, y])

    def test_rows_of_any_size(self):
        self.gives(True, turns, tuple(range(40)), (39, 0))
        self.gives(False, turns, list(range(40)), (0, 39))

    def test_refusals_in_their_order(self):
        for value in NO_LISTS:
            self.fails(BadRow(-1), turns, value, None)
        for wrong in (-1, 3, True, None, 1.0, "1", (1,), [1]):
            self.fails(BadRow(2), turns, (0, 2, wrong), None)
        self.fails(BadRow(1), turns, (1, 1, 2), (1, 1))
        self.fails(BadRow(0), turns, (1,), (1, 0))
        for wrong in (None, 1, True, "01", {0, 1}, range(2), (), (0,), (0, 1, 2), (1, 1), (0, 3), (3, 0), (-1, 0),
                      (True, 0), (0, False), (0, 1.0), [None, 1], ((0,), 1)):
            self.fails(BadPair(-1), turns, (2, 0, 1), wrong)
        # A row of no places has no pair.
        self.fails(BadPair(-1), turns, (), (1, 0))
        self.fails(BadPair(-1), turns, [0], (0, 0))


class TurnerTest(Case):
    def test_lines(self):
        for order in small_orders() + some_orders(5, 5, 6):
            turner = Turner(order)
            for line in lines_of(order):
                wanted = tuple(sorted(turned_by(line) & set(open_pairs(order))))
                self.gives(wanted, turner, line)
                self.gives(wanted, turner, list(line))

    def test_attribute(self):
        turner = Turner(ORDER)
        self.assertEqual(turner.order, ORDER)
        turner((1, 3, 0, 2))
        self.assertEqual(turner.order, ORDER)

    def test_ends_of_the_range(self):
        self.gives((), Turner(chain(1)), (0,))
        self.gives((), Turner(chain(16)), tuple(range(16)))
        self.gives(tuple((x, y) for x in range(16) for y in range(x)), Turner(antichain(16)), list(range(16)))
        self.gives(((0, 1), (3, 0), (3, 2)), Turner(ORDER), (1, 0, 2, 3))

    def test_refusals(self):
        turner = Turner(ORDER)
        for value in NO_LISTS:
            self.fails(BadRow(-1), turner, value)
        for wrong in (-1, 4, True, None, 1.0, "1"):
            self.fails(BadRow(3), turner, (2, 1, 0, wrong))
        self.fails(BadRow(3), turner, (2, 1, 0))
        self.fails(BadLine(0), turner, (2, 1, 0, 3))
        self.fails(BadLine(1), turner, [0, 3, 2, 1])
        # A refusal leaves the object as it was.
        self.gives(((0, 1), (0, 3), (2, 3)), turner, (1, 3, 0, 2))


class LineForTest(Case):
    def line(self, order, lot):
        line = self.told(line_for, order, lot)
        self.assertIs(type(line), tuple)
        self.assertTrue(is_line(order, line))
        self.assertLessEqual(set(lot), turned_by(line))

    def lots(self, order, lots):
        sets = turned_sets(order)
        for lot in lots:
            if is_turned(lot, sets):
                self.line(order, lot)
            else:
                self.gives(None, line_for, order, lot)

    def test_small_orders(self):
        for order in small_orders()[::4]:
            self.lots(order, lots_within(plain_pairs(order), 3))
            self.lots(order, some_lots(order, 20, 12))

    def test_greater_orders(self):
        for order in some_orders(8, 5, 7):
            self.lots(order, some_lots(order, 12, 8))

    def test_edges(self):
        for order in (chain(1), chain(16), antichain(16), many_lines()):
            self.line(order, ())
            self.line(order, sure_pairs(order))
        self.line(antichain(16), [(x, y) for x in range(16) for y in range(16) if x < y])
        self.gives(None, line_for, antichain(16), all_pairs(antichain(16)))
        self.line(many_lines(), [(0, 15), (2, 14), (13, 12)])
        self.gives(None, line_for, many_lines(), [(0, 15), (13, 1), (10, 3), (2, 12)])

    def test_refusals(self):
        for value in NO_LISTS:
            self.fails(BadPair(-2), line_for, ORDER, value)
        for wrong in NO_PAIRS:
            self.fails(BadPair(1), line_for, ORDER, ((2, 0), wrong))
        self.fails(BadPair(1), line_for, Order(2), ((1, 0), [1, 0]))


if __name__ == "__main__":
    unittest.main()
