"""[0.5]: equal calls, equal answers, a list counting as the tuple of its entries; and [1]: nothing is changed."""

import unittest

from linemix import lines, numbers, orders, places, shapes, swaps, texts, ties
from linemix.orders import Order
from linemix.shapes import antichain, bent, chain, crown
from tests.support import Case, as_lists, five_thousand_lower_sets, many_lines

ORDER = Order(4, [(0, 2), (1, 2), (1, 3)])
ROW = tuple(range(15, -1, -1))

CALLS = (
    (numbers.lowest, (4, -6)),
    (places.places_of, ((3, 0, 2), 4)),
    (orders.Order, (4, ((0, 2), (1, 2), (1, 3)))),
    (ORDER.on, ((3, 1, 0),)),
    (ORDER.next_steps, ()),
    (shapes.stacked, ((1, 3, 2),)),
    (lines.lines_of, (bent(),)),
    (lines.lower_sets, (five_thousand_lower_sets(),)),
    (lines.count_lines, (many_lines(),)),
    (lines.row_of, (ROW, 16)),
    (lines.line_of, (ORDER, (1, 3, 0, 2))),
    (lines.is_line, (ORDER, (1, 3, 2, 0))),
    (lines.cut_down, (ROW, (4, 9, 1))),
    (lines.carried_on, (ORDER, (3, 0), (3, 0))),
    (lines.carried_on, (many_lines(), (0, 5, 15), (15, 5, 0))),
    (swaps.unlike_couples, (ROW, tuple(range(16)))),
    (swaps.swap_path, (antichain(16), ROW, tuple(range(16)))),
    (ties.tied, (ORDER, (0, 3), (2, 3))),
    (ties.single_ties, (crown(5, reach=2),)),
    (ties.tie_path, (antichain(6), bent())),
    (ties.untied, (chain(5), 2, 3)),
    (texts.order_text, (bent(),)),
    (texts.order_from, ("order 3\n1 < 2\n",)),
)


class RepeatsTest(Case):
    def test_lists_and_tuples(self):
        for call, args in CALLS:
            answer = self.told(call, *args)
            self.assertEqual(self.told(call, *as_lists(args)), answer)
            self.assertEqual(call(*args), answer)

    def test_equal_orders_made_otherwise(self):
        for order in (ORDER, bent(), crown(4, reach=1), many_lines()):
            same = Order(order.size, order.next_steps()[::-1])
            for call in (ties.single_ties, texts.order_text, lines.count_lines, lines.lower_sets):
                self.assertEqual(call(same), call(order))
            self.assertEqual(lines.lines_of(same, first=50), lines.lines_of(order, first=50))

    def test_returned_lists_are_the_callers_own(self):
        for call, args in CALLS:
            answer = call(*args)
            if isinstance(answer, list):
                kept = list(answer)
                answer.clear()
                self.assertEqual(call(*args), kept)


if __name__ == "__main__":
    unittest.main()
