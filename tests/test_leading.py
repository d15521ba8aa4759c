"""linemix/leading.py, with [22] and [23]."""

import unittest
from itertools import permutations, product

from linemix.errors import BadPair
from linemix.leading import is_tight, led_by, leads, tight_for, tight_pairs
from linemix.orders import Order
from linemix.pairs import open_pairs, sure_pairs
from linemix.shapes import antichain, chain, standard
from tests.support import NO_PAIRS, ORDER, Case, plain_pairs, small_orders, some_orders


def plain_leads(order, pair, other):
    """Whether pair leads to other, by the words of [22]."""
    steps = order.steps_told()
    low, high = (pair[0], other[0]), (other[1], pair[1])
    return pair != other and all(a == b or (a, b) in steps for a, b in (low, high))


class LeadsTest(Case):
    def test_each_couple_of_pairs(self):
        for order in small_orders()[::3] + some_orders(3, 5, 6):
            for pair, other in product(plain_pairs(order), repeat=2):
                self.gives(plain_leads(order, pair, other), leads, order, list(pair), other)

    def test_led_by(self):
        for order in small_orders() + some_orders(8, 5, 16):
            pairs = plain_pairs(order)
            for pair in pairs:
                wanted = tuple(other for other in sorted(pairs) if plain_leads(order, pair, other))
                self.gives(wanted, led_by, order, pair)

    def test_examples(self):
        self.gives(False, leads, ORDER, (1, 0), (1, 0))
        # (1, 0): 1 is below 2 and 3, so it leads to the sure pair (2, 0) and to the open pair (3, 0).
        self.gives(((2, 0), (3, 0)), led_by, ORDER, (1, 0))
        self.gives((), led_by, antichain(16), (3, 7))
        self.gives(tuple(sorted({(x, y) for x in (14, 15) for y in (0, 1)} - {(14, 1)})), led_by, chain(16), (14, 1))

    def test_refusals_in_their_order(self):
        for wrong in NO_PAIRS:
            self.fails(BadPair(-1), leads, ORDER, wrong, wrong)
            self.fails(BadPair(-1), leads, ORDER, (1, 0), wrong)
            self.fails(BadPair(-1), led_by, ORDER, wrong)
            self.fails(BadPair(-1), is_tight, ORDER, wrong)
            self.fails(BadPair(-1), tight_for, ORDER, wrong)


class TightTest(Case):
    def test_tight_pairs(self):
        for order in small_orders() + some_orders(10, 5, 12):
            pairs = plain_pairs(order)
            wanted = tuple(pair for pair in open_pairs(order)
                           if not any(plain_leads(order, other, pair) for other in pairs))
            self.gives(wanted, tight_pairs, order)
            for pair in pairs:
                self.gives(pair in wanted, is_tight, order, list(pair))

    def test_tight_for(self):
        for order in small_orders() + some_orders(10, 5, 12):
            tight = tight_pairs(order)
            for pair in open_pairs(order):
                leading = [other for other in tight if plain_leads(order, other, pair)]
                self.gives(pair if pair in tight else leading[0], tight_for, order, pair)
            for pair in sure_pairs(order):
                self.gives(None, tight_for, order, list(pair))

    def test_edges(self):
        self.gives((), tight_pairs, chain(1))
        self.gives((), tight_pairs, chain(16))
        self.gives(tuple(permutations(range(16), 2)), tight_pairs, antichain(16))
        self.gives(((0, 4), (1, 5), (2, 6), (3, 7)), tight_pairs, standard(4))
        self.gives(((0, 3), (1, 0), (3, 2)), tight_pairs, ORDER)
        self.gives((1, 0), tight_for, ORDER, (3, 0))
        # 0 is below 2, and 1 is below 3.
        self.gives((0, 3), tight_for, ORDER, (2, 3))
        self.gives((0, 3), tight_for, ORDER, (0, 1))

    def test_the_least_one_that_leads(self):
        # (2, 3) is led to by both tight pairs (0, 3) and (1, 3).
        order = Order(4, [(0, 2), (1, 2)])
        self.assertIn((1, 3), tight_pairs(order))
        self.gives((0, 3), tight_for, order, [2, 3])


if __name__ == "__main__":
    unittest.main()
