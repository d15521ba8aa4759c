"""class Order in linemix/orders.py, with [4] and [5]."""

import unittest
from itertools import combinations, permutations, product

from linemix.errors import BadNumber, BadPlace, BadSet, BadSteps, HasRing, OtherSize
from linemix.orders import Order
from linemix.shapes import antichain, chain
from tests.support import Case, many_lines, orders_of, small_orders, some_orders, steps_following

NO_PLACES = (-1, 4, True, False, None, 1.0, "1", (1,), [1], {})
ORDER = Order(4, [(0, 2), (1, 2), (1, 3)])


class MakingTest(Case):
    def test_all_that_follows_is_added(self):
        order = Order(4, [(2, 3), (0, 1), (1, 2)])
        self.gives(((0, 1), (0, 2), (0, 3), (1, 2), (1, 3), (2, 3)), order.steps_told)
        # A new step between two long chains: everything under it comes below everything over it.
        order = Order(6, [(0, 1), (1, 2), (3, 4), (4, 5), (1, 4)])
        self.assertIn((0, 5), order)
        self.assertNotIn((2, 4), order)
        self.assertNotIn((0, 3), order)

    def test_any_order_of_the_steps_told(self):
        steps = [(0, 1), (1, 2), (3, 1), (2, 4)]
        wanted = Order(5, steps).steps_told()
        self.assertEqual(wanted, steps_following(steps))
        for told in permutations(steps):
            self.gives(wanted, Order(5, told).steps_told)

    def test_what_follows_in_random_orders(self):
        for order in some_orders(60, 5, 16):
            self.assertEqual(order.steps_told(), steps_following(order.next_steps()))
            self.assertEqual(Order(order.size, order.next_steps()), order)
            self.assertEqual(Order(order.size, order.steps_told()), order)

    def test_there_are_as_many_small_orders_as_known(self):
        self.assertEqual([len(orders_of(size)) for size in range(1, 5)], [1, 3, 19, 219])

    def test_lists_and_tuples(self):
        wanted = Order(3, [(0, 1), (1, 2)])
        for steps in (((0, 1), (1, 2)), [[0, 1], [1, 2]], ([0, 1], (1, 2)), [(1, 2), [0, 1]]):
            self.gives(wanted, Order, 3, steps)

    def test_no_steps(self):
        for order in (Order(3), Order(3, ()), Order(3, []), Order.empty(3)):
            self.gives((), order.steps_told)
            self.assertEqual(order.size, 3)

    def test_steps_told_twice(self):
        self.gives(((0, 1),), Order(2, [(0, 1), (0, 1), [0, 1]]).steps_told)
        self.gives(((0, 1), (0, 2), (1, 2)), Order(3, [(0, 1), (1, 2), (0, 2), (1, 2)]).steps_told)

    def test_sizes(self):
        for size in range(1, 17):
            self.assertEqual(Order(size).size, size)
            self.assertEqual(Order.empty(size).size, size)
            self.assertEqual(Order.empty(size), Order(size))
        for size in (0, -1, 17, 10 ** 30, True, False, None, 1.0, "1", (1,), [3]):
            self.fails(BadNumber("size"), Order, size)
            self.fails(BadNumber("size"), Order.empty, size)
            self.fails(BadNumber("size"), Order, size, None)
            self.fails(BadNumber("size"), Order, size, [(0, 0)])

    def test_size_is_an_attribute_set_at_once(self):
        self.assertEqual(vars(Order(3))["size"], 3)

    def test_bad_steps(self):
        for steps in (None, 1, "01", {}, {(0, 1)}, range(0), True):
            self.fails(BadSteps(-1), Order, 3, steps)
        for wrong in (None, 1, "01", {}, {0, 1}, (), (0,), (0, 1, 2), [0], (0, 0), (2, 2), (0, 3), (3, 0), (-1, 0),
                      (0, -1), (0, True), (False, 1), (0, 1.0), ("0", 1), ((0,), 1), [None, 1]):
            self.fails(BadSteps(0), Order, 3, [wrong])
            self.fails(BadSteps(2), Order, 3, ((0, 1), (1, 2), wrong, None))

    def test_rings(self):
        self.fails(HasRing(1), Order, 2, [(0, 1), (1, 0)])
        self.fails(HasRing(2), Order, 3, [(0, 1), (1, 2), (2, 0)])
        self.fails(HasRing(3), Order, 4, [(0, 1), (0, 1), (2, 3), [1, 0], (3, 2)])
        self.fails(HasRing(4), Order, 5, ((0, 1), (2, 3), (3, 4), (1, 2), (4, 0)))

    def test_bad_steps_come_ahead_of_rings(self):
        self.fails(BadSteps(2), Order, 3, [(0, 1), (1, 0), (1, 1)])

    def test_the_first_ring_is_told(self):
        for size, many in ((3, 3), (4, 3)):
            couples = list(permutations(range(size), 2))
            for steps in product(couples, repeat=many):
                closed = [set(steps_following(steps[:at + 1])) for at in range(many)]
                wrong = [at for at in range(many) if any(low == high for low, high in closed[at])]
                if wrong:
                    with self.assertRaises(HasRing) as caught:
                        Order(size, steps)
                    self.assertEqual(caught.exception.place, wrong[0])
                else:
                    self.assertEqual(Order(size, steps).steps_told(), tuple(sorted(closed[-1])))

    def test_later_changes_have_no_effect(self):
        inner = [0, 1]
        steps = [inner, (1, 2)]
        order = Order(3, steps)
        inner[1] = 2
        steps.append((2, 0))
        self.assertEqual(order.steps_told(), ((0, 1), (0, 2), (1, 2)))


class AskingTest(Case):
    def test_steps_and_next_steps(self):
        self.gives(((0, 2), (1, 2), (1, 3)), ORDER.steps_told)
        self.gives(((0, 2), (1, 2), (1, 3)), ORDER.next_steps)
        self.gives(((0, 1), (1, 2), (2, 3)), chain(4).next_steps)
        self.gives((), antichain(16).next_steps)
        self.gives((), chain(1).next_steps)
        for order in small_orders():
            steps = order.steps_told()
            self.assertEqual(steps, tuple(sorted(steps)))
            between = [(low, high) for low, high in steps for z in range(order.size)
                       if (low, z) in steps and (z, high) in steps]
            self.gives(tuple(step for step in steps if step not in between), order.next_steps)

    def test_two_places(self):
        for order in small_orders():
            steps = order.steps_told()
            for x, y in product(range(order.size), repeat=2):
                self.gives((x, y) in steps, order.is_below, x, y)
                self.gives((x, y) in steps or x == y, order.is_under, x, y)
                self.gives((x, y) not in steps and (y, x) not in steps and x != y, order.are_open, x, y)
                self.assertIs((x, y) in order, (x, y) in steps)

    def test_two_places_of_sixteen(self):
        order = many_lines()
        for x, y in product(range(16), repeat=2):
            self.gives((x, y) in order.steps_told(), order.is_below, x, y)
            self.gives((x, y) not in order and (y, x) not in order and x != y, order.are_open, x, y)
        self.gives(True, order.is_below, 10, 12)
        self.gives(True, order.is_below, 13, 15)
        self.gives(False, order.is_below, 15, 13)
        self.gives(True, order.are_open, 12, 13)

    def test_what_is_no_place(self):
        for wrong in NO_PLACES:
            for call in (ORDER.is_below, ORDER.is_under, ORDER.are_open):
                self.fails(BadPlace("x"), call, wrong, 0)
                self.fails(BadPlace("y"), call, 0, wrong)
                self.fails(BadPlace("x"), call, wrong, wrong)
            self.fails(BadPlace("x"), ORDER.below, wrong)
            self.fails(BadPlace("x"), ORDER.above, wrong)

    def test_below_and_above(self):
        self.gives((), ORDER.below, 0)
        self.gives((0, 1), ORDER.below, 2)
        self.gives((2, 3), ORDER.above, 1)
        for order in small_orders() + [many_lines(), chain(16)]:
            steps = order.steps_told()
            for x in range(order.size):
                self.gives(tuple(low for low in range(order.size) if (low, x) in steps), order.below, x)
                self.gives(tuple(high for high in range(order.size) if (x, high) in steps), order.above, x)

    def test_bottoms_and_tops(self):
        self.gives((0, 1), ORDER.bottoms)
        self.gives((2, 3), ORDER.tops)
        self.gives((0,), chain(1).bottoms)
        self.gives((0,), chain(1).tops)
        for order in small_orders() + [antichain(16)]:
            steps = order.steps_told()
            highs = [high for _, high in steps]
            lows = [low for low, _ in steps]
            self.gives(tuple(x for x in range(order.size) if x not in highs), order.bottoms)
            self.gives(tuple(x for x in range(order.size) if x not in lows), order.tops)

    def test_ends(self):
        self.gives(None, chain(1).ends)
        self.gives((0, 1), chain(2).ends)
        self.gives((1, 0), Order(2, [(1, 0)]).ends)
        self.gives(None, antichain(2).ends)
        self.gives((0, 15), chain(16).ends)
        self.gives(None, Order(3, [(0, 1), (0, 2)]).ends)
        self.gives(None, Order(3, [(0, 2), (1, 2)]).ends)
        for order in small_orders():
            size = order.size
            least = [x for x in range(size) if all(order.is_under(x, y) for y in range(size))]
            greatest = [x for x in range(size) if all(order.is_under(y, x) for y in range(size))]
            has_ends = least and greatest and size >= 2
            self.gives((least[0], greatest[0]) if has_ends else None, order.ends)

    def test_is_chain(self):
        for size in range(1, 17):
            self.gives(True, chain(size).is_chain)
            self.gives(size == 1, antichain(size).is_chain)
        for order in small_orders():
            free = [couple for couple in combinations(range(order.size), 2) if order.are_open(*couple)]
            self.gives(not free, order.is_chain)


class SubOrderTest(Case):
    def test_on(self):
        self.gives(Order(3, [(0, 1), (0, 2)]), ORDER.on, (1, 2, 3))
        self.gives(Order(3, [(1, 2)]), ORDER.on, [3, 1, 0])
        self.gives(ORDER, ORDER.on, [3, 2, 1, 0])
        self.gives(chain(1), ORDER.on, [3])
        self.gives(antichain(2), ORDER.on, (2, 3))
        for order in small_orders() + some_orders(10, 5, 7):
            for many in range(1, order.size + 1):
                for chosen in combinations(range(order.size), many):
                    steps = [(chosen.index(low), chosen.index(high)) for low, high in order.steps_told()
                             if low in chosen and high in chosen]
                    sub = order.on(chosen[::-1])
                    self.assertEqual((sub.size, sub.steps_told()), (many, tuple(sorted(steps))))

    def test_on_sixteen_places(self):
        order = many_lines()
        self.gives(order, order.on, list(range(16)))
        self.gives(chain(3), order.on, (15, 13, 14))

    def test_on_refuses(self):
        self.fails(BadSet(0), ORDER.on, ())
        self.fails(BadSet(0), ORDER.on, [])
        for value in (None, 1, "01", {0}):
            self.fails(BadSet(-1), ORDER.on, value)
        for wrong in NO_PLACES:
            self.fails(BadSet(1), ORDER.on, [0, wrong, 0])
        self.fails(BadSet(2), ORDER.on, (3, 0, 3))

    def test_holds(self):
        for size in range(1, 4):
            for one in orders_of(size):
                for other in orders_of(size):
                    self.gives(set(one.steps_told()) >= set(other.steps_told()), one.holds, other)
        self.gives(True, chain(16).holds, antichain(16))
        self.gives(False, antichain(16).holds, chain(16))
        self.fails(OtherSize(4), chain(3).holds, chain(4))
        self.fails(OtherSize(1), chain(3).holds, chain(1))


if __name__ == "__main__":
    unittest.main()
