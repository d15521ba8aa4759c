"""linemix/ties.py, with [10] and [11]."""

import unittest
from itertools import permutations, product

from linemix.errors import BadPlace, BadSteps, NotHeld, NotOpen, OtherSize
from linemix.orders import Order
from linemix.shapes import antichain, chain
from linemix.ties import single_ties, tie_path, tied, untied
from tests.support import Case, many_lines, orders_of, small_orders, some_orders

ORDER = Order(4, [(0, 2), (1, 2), (1, 3)])


def plain_tie(order, u, v):
    """The steps of the order with the tie: all of its own, and all x under u below all y over v."""
    places = range(order.size)
    return {(x, y) for x, y in product(places, repeat=2)
            if order.is_below(x, y) or (order.is_under(x, u) and order.is_under(v, y))}


def open_couples(order):
    return [couple for couple in permutations(range(order.size), 2) if order.are_open(*couple)]


class TiedTest(Case):
    def test_one_tie(self):
        for order in small_orders() + some_orders(15, 5, 16):
            for u, v in open_couples(order):
                made = self.told(tied, order, (u, v))
                self.assertEqual(made.size, order.size)
                self.assertEqual(set(made.steps_told()), plain_tie(order, u, v))
                self.assertEqual(tied(order, [u, v]), made)

    def test_several_ties(self):
        self.gives(chain(4), tied, antichain(4), (0, 1), [1, 2], (2, 3))
        self.gives(Order(4, [(0, 1), (0, 2), (0, 3), (1, 2), (1, 3)]), tied, ORDER, (0, 1))
        self.gives(Order(4, [(3, 0), (0, 2), (1, 2), (1, 3), (1, 0), (3, 2)]), tied, ORDER, (3, 0))
        self.gives(Order(4, [(0, 3), (0, 2), (1, 2), (1, 3), (2, 3)]), tied, ORDER, (0, 3), (2, 3))

    def test_no_tie(self):
        for order in small_orders() + [antichain(16), many_lines()]:
            self.gives(order, tied, order)

    def test_many_lines(self):
        order = self.told(tied, antichain(16), (15, 0), (0, 7))
        self.assertEqual(order.steps_told(), ((0, 7), (15, 0), (15, 7)))
        order = self.told(tied, many_lines(), (12, 13))
        self.assertIn((10, 15), order)

    def test_refusals_in_their_order(self):
        for wrong in (None, 1, "01", {0, 1}, (), (0,), (0, 1, 2), (1, 1), (0, 4), (-1, 0), (0, True), (0, 1.0), [None, 1]):
            self.fails(BadSteps(0), tied, ORDER, wrong)
            self.fails(BadSteps(1), tied, ORDER, (0, 1), wrong, wrong)
            # All steps are checked for their form before any of them is added.
            self.fails(BadSteps(1), tied, ORDER, (0, 2), wrong)
        self.fails(NotOpen(0, 2), tied, ORDER, (0, 2))
        self.fails(NotOpen(2, 0), tied, ORDER, (2, 0))
        self.fails(NotOpen(2, 0), tied, ORDER, (3, 2), [2, 0], (1, 2))
        # Not open any more by then, though open at first.
        self.fails(NotOpen(0, 1), tied, ORDER, (0, 1), (0, 1))
        self.fails(NotOpen(1, 0), tied, ORDER, (0, 1), (1, 0))
        self.fails(NotOpen(0, 2), tied, antichain(3), (0, 1), (1, 2), (0, 2))

    def test_later_changes_have_no_effect(self):
        step = [0, 1]
        order = tied(antichain(3), step)
        step[1] = 2
        self.assertEqual(order.steps_told(), ((0, 1),))


class SingleTest(Case):
    def test_single_ties(self):
        for order in small_orders() + some_orders(15, 5, 9):
            wanted = [couple for couple in open_couples(order)
                      if len(tied(order, couple).steps_told()) == len(order.steps_told()) + 1]
            self.gives(tuple(sorted(wanted)), single_ties, order)

    def test_ends_of_the_range(self):
        self.gives((), single_ties, chain(1))
        self.gives((), single_ties, chain(16))
        self.gives(tuple(permutations(range(16), 2)), single_ties, antichain(16))
        self.gives(((0, 2), (2, 1)), single_ties, Order(3, [(0, 1)]))
        self.gives(((0, 2), (1, 3), (2, 0), (3, 1)), single_ties, Order(4, [(0, 1), (2, 3), (0, 3), (2, 1)]))
        self.gives(((0, 3), (1, 0), (3, 2)), single_ties, ORDER)


class PathTest(Case):
    def path(self, order, other):
        path = self.told(tie_path, order, other)
        self.assertIs(type(path), list)
        self.assertEqual(len(path), len(other.steps_told()) - len(order.steps_told()))
        reached = order
        for step in path:
            self.assertIs(type(step), tuple)
            self.assertIn(step, other)
            self.assertIn(step, single_ties(reached))
            following = tied(reached, step)
            self.assertEqual(set(following.steps_told()), set(reached.steps_told()) | {step})
            self.assertTrue(following.holds(order) and other.holds(following))
            reached = following
        self.assertEqual(reached, other)

    def test_all_small_orders(self):
        for size in range(1, 4):
            for order, other in product(orders_of(size), repeat=2):
                self.path_or_refusal(order, other)

    def test_orders_of_four_places(self):
        for other in orders_of(4):
            for order in orders_of(4)[::7] + [antichain(4)]:
                self.path_or_refusal(order, other)

    def path_or_refusal(self, order, other):
        missing = [step for step in order.steps_told() if step not in other.steps_told()]
        if missing:
            self.fails(NotHeld(*missing[0]), tie_path, order, other)
        else:
            self.path(order, other)

    def test_greater_orders(self):
        for order in some_orders(8, 5, 9):
            for steps in (order.steps_told(), order.steps_told()[:1]):
                self.path(Order(order.size, steps), tied(order, *single_ties(order)[:1]))

    def test_sixteen_places(self):
        self.path(antichain(16), ~chain(16))
        self.path(chain(16), chain(16))
        self.path(chain(1), chain(1))

    def test_refusals(self):
        self.fails(OtherSize(3), tie_path, ORDER, chain(3))
        self.fails(OtherSize(5), tie_path, ORDER, antichain(5))
        self.fails(NotHeld(0, 2), tie_path, ORDER, antichain(4))
        self.fails(NotHeld(1, 3), tie_path, ORDER, Order(4, [(0, 2), (1, 2)]))


class UntiedTest(Case):
    def test_each_couple_of_places(self):
        for order in small_orders() + some_orders(5, 5, 16):
            for u, v in product(range(order.size), repeat=2):
                if (u, v) in order.next_steps():
                    made = self.told(untied, order, u, v)
                    wanted = tuple(step for step in order.steps_told() if step != (u, v))
                    self.assertEqual((made.size, made.steps_told()), (order.size, wanted))
                    self.assertEqual(tied(made, (u, v)), order)
                else:
                    self.fails(NotOpen(u, v), untied, order, u, v)

    def test_examples(self):
        self.gives(Order(3, [(0, 2), (1, 2)]), untied, chain(3), 0, 1)
        self.gives(Order(3, [(0, 1), (0, 2)]), untied, chain(3), 1, 2)
        self.fails(NotOpen(0, 2), untied, chain(3), 0, 2)
        self.fails(NotOpen(1, 0), untied, chain(3), 1, 0)
        self.fails(NotOpen(1, 1), untied, chain(3), 1, 1)
        self.fails(NotOpen(0, 0), untied, chain(1), 0, 0)

    def test_refusals_in_their_order(self):
        for wrong in (-1, 3, True, False, None, 1.0, "1", (1,), [1]):
            self.fails(BadPlace("u"), untied, chain(3), wrong, wrong)
            self.fails(BadPlace("u"), untied, chain(3), wrong, 1)
            self.fails(BadPlace("v"), untied, chain(3), 0, wrong)


if __name__ == "__main__":
    unittest.main()
