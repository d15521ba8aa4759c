"""The operators of Order: equality, steps as members, size, iteration, and the made orders of [7]."""

import unittest
from itertools import product

from linemix.errors import BadNumber, OtherSize
from linemix.orders import Order
from linemix.shapes import antichain, chain
from tests.support import Case, many_lines, orders_of, small_orders, some_orders

ORDER = Order(4, [(0, 2), (1, 2), (1, 3)])
PAIRS = [(one, other) for one in orders_of(2) + orders_of(3) for other in orders_of(1) + orders_of(2) + orders_of(3)]


def add(one, other):
    return one + other


def above(one, other):
    return one >> other


def times(one, other):
    return one * other


def common(one, other):
    return one & other


class SignsTest(Case):
    def test_equal(self):
        for one in small_orders():
            for other in small_orders():
                same = (one.size, one.steps_told()) == (other.size, other.steps_told())
                self.assertIs(one == other, same)
                self.assertIs(one != other, not same)
        self.assertTrue(Order(3, [(0, 1), (1, 2)]) == Order(3, [(0, 2), (1, 2), (0, 1)]))
        self.assertFalse(Order(3) == Order(4))

    def test_unlike_what_is_no_order(self):
        for value in (None, 0, 4, "order 4", ((0, 2), (1, 2), (1, 3)), [], (4, ()), {}, Order):
            self.assertIs(ORDER == value, False)
            self.assertIs(value == ORDER, False)
            self.assertIs(ORDER != value, True)

    def test_members(self):
        self.assertIs((0, 2) in ORDER, True)
        for step in ((2, 0), (0, 1), (0, 0), (0, 4), (4, 0), (-1, 2), (0, -2), (0, 10 ** 30), (-10 ** 30, 0), (16, 17)):
            self.assertIs(step in ORDER, False)
        # Bits behind the last place are no steps either.
        self.assertIs((0, 16) in chain(16), False)
        self.assertIs((0, 15) in chain(16), True)

    def test_len(self):
        for size in range(1, 17):
            self.assertEqual(len(antichain(size)), size)
            self.assertEqual(len(chain(size)), size)

    def test_iteration(self):
        for order in small_orders() + [many_lines()]:
            self.assertEqual(tuple(order), order.steps_told())
            self.assertEqual([step for step in order], list(order.steps_told()))
        self.assertEqual(list(ORDER), [(0, 2), (1, 2), (1, 3)])
        self.assertEqual(list(chain(1)), [])
        self.assertEqual([(one, other) for one in chain(2) for other in chain(2)], [((0, 1), (0, 1))])

    def test_a_taken_list_of_steps_is_new(self):
        steps = list(ORDER)
        steps.clear()
        self.assertEqual(len(list(ORDER)), 3)


class MadeTest(Case):
    def made(self, call, one, other, size, is_step):
        """The made order has just the steps that is_step tells."""
        wanted = [step for step in product(range(size), repeat=2) if is_step(*step)]
        order = self.told(call, one, other)
        self.assertIs(type(order), Order)
        self.assertEqual((order.size, order.steps_told()), (size, tuple(wanted)))

    def test_beside(self):
        for one, other in PAIRS:
            n, m = one.size, other.size
            self.made(add, one, other, n + m, lambda u, v: (u, v) in one or (u - n, v - n) in other)
        self.gives(Order(4, [(0, 1), (2, 3)]), add, chain(2), chain(2))
        self.gives(Order(3, [(1, 2)]), add, chain(1), chain(2))

    def test_above(self):
        for one, other in PAIRS:
            n, m = one.size, other.size
            self.made(above, one, other, n + m,
                      lambda u, v: (u, v) in one or (u - n, v - n) in other or u < n <= v)
        self.gives(Order(4, [(0, 2), (0, 3), (1, 2), (1, 3)]), above, antichain(2), antichain(2))

    def test_product(self):
        for one, other in PAIRS:
            m = other.size
            self.made(times, one, other, one.size * m,
                      lambda u, v: u != v and one.is_under(u // m, v // m) and other.is_under(u % m, v % m))
        self.gives(Order(4, [(0, 1), (0, 2), (0, 3), (1, 3), (2, 3)]), times, chain(2), chain(2))
        self.gives(Order(6, [(0, 2), (0, 4), (2, 4), (1, 3), (1, 5), (3, 5)]), times, chain(3), antichain(2))
        self.gives(Order(6, [(0, 1), (0, 2), (1, 2), (3, 4), (3, 5), (4, 5)]), times, antichain(2), chain(3))

    def test_common_steps(self):
        for size in range(1, 4):
            for one, other in product(orders_of(size), repeat=2):
                self.made(common, one, other, size, lambda u, v: (u, v) in one and (u, v) in other)
        self.gives(antichain(16), common, chain(16), ~chain(16))
        self.fails(OtherSize(3), common, chain(4), chain(3))
        self.fails(OtherSize(5), common, chain(4), chain(5))

    def test_upside_down(self):
        for order in small_orders() + some_orders(20, 5, 16):
            turned = ~order
            self.assertEqual(turned.size, order.size)
            self.assertEqual(turned.steps_told(), tuple(sorted((high, low) for low, high in order)))
            self.assertEqual(~turned, order)

    def test_sixteen_and_seventeen_places(self):
        for call in (add, above):
            self.assertEqual(call(chain(8), antichain(8)).size, 16)
            self.assertEqual(call(antichain(15), chain(1)).size, 16)
            self.fails(BadNumber("size"), call, chain(8), antichain(9))
            self.fails(BadNumber("size"), call, chain(1), chain(16))
            self.fails(BadNumber("size"), call, chain(16), chain(16))
        self.gives(chain(16), above, chain(15), chain(1))
        self.assertEqual((chain(4) * chain(4)).size, 16)
        self.gives(chain(16), times, chain(16), chain(1))
        self.gives(chain(16), times, chain(1), chain(16))
        self.fails(BadNumber("size"), times, chain(4), chain(5))
        self.fails(BadNumber("size"), times, chain(17 - 8), chain(2))
        self.fails(BadNumber("size"), times, chain(16), chain(16))

    def test_the_parts_stay_as_they_are(self):
        one, other = chain(3), antichain(3)
        for order in (one + other, one >> other, one * other, one & other, ~one):
            self.assertIsNot(order, one)
        self.assertEqual((one.steps_told(), other.steps_told()), (((0, 1), (0, 2), (1, 2)), ()))


if __name__ == "__main__":
    unittest.main()
