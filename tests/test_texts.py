"""linemix/texts.py and [14]."""

import unittest

from linemix.errors import BadSteps, BadText, HasRing
from linemix.orders import Order
from linemix.shapes import antichain, chain, standard
from linemix.texts import order_from, order_text
from tests.support import Case, many_lines, small_orders, some_orders

ORDER = Order(4, [(0, 2), (1, 2), (1, 3)])


class TextTest(Case):
    def test_texts_of_orders(self):
        self.gives("order 4\n0 < 2\n1 < 2\n1 < 3", order_text, ORDER)
        self.gives("order 1", order_text, chain(1))
        self.gives("order 16", order_text, antichain(16))
        self.gives("order 3\n0 < 1\n1 < 2", order_text, chain(3))
        self.gives("order 3\n1 < 0\n2 < 1", order_text, ~chain(3))
        self.gives("order 4\n0 < 3\n1 < 2", order_text, standard(2))
        wanted = "\n".join(["order 16"] + [f"{low} < {low + 1}" for low in range(15)])
        self.gives(wanted, order_text, chain(16))

    def test_only_next_steps_ascending(self):
        for order in small_orders() + some_orders(20, 5, 16):
            lines = order_text(order).split("\n")
            self.assertEqual(lines[0], f"order {order.size}")
            self.assertEqual(lines[1:], [f"{low} < {high}" for low, high in order.next_steps()])

    def test_back_again(self):
        for order in small_orders() + some_orders(30, 5, 16) + [many_lines(), antichain(16), chain(16)]:
            text = order_text(order)
            self.gives(order, order_from, text)
            self.gives(order, order_from, text + "\n")


class ReadingTest(Case):
    def refused(self, line, text, cause=None):
        error = self.fails(BadText(line), order_from, text)
        if cause is None:
            self.assertIsNone(error.__cause__)
        else:
            self.assertIs(type(error.__cause__), cause)
            self.assertEqual(error.__cause__.place, line - 2)

    def test_any_steps_in_any_order(self):
        self.gives(chain(3), order_from, "order 3\n1 < 2\n0 < 2\n0 < 1")
        self.gives(chain(3), order_from, "order 3\n1 < 2\n0 < 1\n1 < 2\n0 < 1")
        self.gives(Order(16, [(15, 0), (9, 10)]), order_from, "order 16\n15 < 0\n9 < 10")

    def test_the_last_line_may_be_empty(self):
        self.gives(antichain(3), order_from, "order 3")
        self.gives(antichain(3), order_from, "order 3\n")
        self.gives(chain(2), order_from, "order 2\n0 < 1\n")
        self.refused(2, "order 3\n\n", BadSteps)
        self.refused(3, "order 2\n0 < 1\n\n", BadSteps)
        self.refused(2, "order 2\n\n0 < 1", BadSteps)

    def test_no_text(self):
        for value in (None, 1, True, b"order 3", ["order 3"], ("order 3",), {}, chain(3)):
            self.refused(0, value)

    def test_sizes(self):
        for size in range(1, 17):
            self.gives(antichain(size), order_from, f"order {size}")
        for line in ("", " ", "order", "order ", " order 3", "order  3", "order 3 ", "Order 3", "order 3 4", "3",
                     "order 0", "order 17", "order 03", "order 00", "order +3", "order -3", "order 3.0", "order x",
                     "order 1_0", "order 0x3", "order 160", "order " + "1" * 6000, "0 < 1", "order,3", "orders 3"):
            self.refused(1, line)
            self.refused(1, line + "\n")
            self.refused(1, line + "\n0 < 1")
            self.refused(1, line + "\n1 < 1\nx")
        self.refused(1, "\norder 3")

    def test_lines_that_are_no_steps(self):
        for line in ("x", "0<1", "0 <1", "0< 1", " 0 < 1", "0 < 1 ", "0  < 1", "0 <  1", "0 > 1", "0 <= 1", "0 < 1 < 2",
                     "0 <", "< 1", "0 < ", "0 1", "00 < 1", "0 < 01", "+0 < 1", "0 < +1", "-0 < 1", "0 < -1", "0 < x",
                     "0 < 1.0", "0 < 3", "3 < 0", "0 < 16", "16 < 0", "0 < 17", "1 < 1", "0 < 0", "0 , 1", "a < b",
                     "0 < " + "1" * 6000, "0 < 1\t", "order 3", " "):
            self.refused(2, "order 3\n" + line, BadSteps)
            self.refused(2, "order 3\n" + line + "\n", BadSteps)
            self.refused(4, "order 3\n0 < 1\n1 < 2\n" + line + "\nx", BadSteps)
        self.refused(2, "order 16\n0 < 16", BadSteps)

    def test_rings(self):
        self.refused(3, "order 3\n0 < 1\n1 < 0", HasRing)
        self.refused(4, "order 3\n0 < 1\n1 < 2\n2 < 0\n", HasRing)
        self.refused(6, "order 5\n0 < 1\n2 < 3\n3 < 4\n1 < 2\n4 < 0\n1 < 0", HasRing)

    def test_wrong_lines_come_ahead_of_rings(self):
        self.refused(4, "order 3\n0 < 1\n1 < 0\n1 < 1", BadSteps)
        self.refused(5, "order 3\n0 < 1\n1 < 0\n1 < 2\nx", BadSteps)


if __name__ == "__main__":
    unittest.main()
