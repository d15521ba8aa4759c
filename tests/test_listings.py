"""linemix/listings.py, with [150]."""

import unittest

from linemix.costs import cost
from linemix.counts import Counts
from linemix.desks import Desk
from linemix.listings import count_line, listing
from linemix.orders import Order
from linemix.shapes import antichain, bent, chain
from linemix.worths import worth
from tests.support import ORDER, CostCase, few_counts, many_lines, small_orders, some_orders

BIG = 10 ** 30


def with_commas(number):
    """A number with a comma between groups of three digits, counted from the right."""
    digits = str(number)
    groups = []
    while digits:
        groups.insert(0, digits[-3:])
        digits = digits[:-3]
    return ",".join(groups)


def row(label, text):
    return label + " " * (14 - len(label)) + " " * (11 - len(text)) + text


def count_row(x, y, number):
    label = " " * (5 - len(str(x))) + str(x) + " over " + str(y) + " " * (3 - len(str(y)))
    return row(label, with_commas(number))


class CountLineTest(CostCase):
    def test_rows(self):
        for x, y, number, wanted in (
            (2, 0, 1500, "    2 over 0        1,500"),
            (0, 0, 0, "    0 over 0            0"),
            (15, 10, 999, "   15 over 10         999"),
            (15, 10, 1000, "   15 over 10       1,000"),
            (1, 2, 999999999, "    1 over 2  999,999,999"),
            # Numbers and labels that are longer than their columns make their rows longer.
            (1, 2, 1000000000, "    1 over 2  1,000,000,000"),
            (12345, 123, 1, "12345 over 123          1"),
            (123456, 1234, 1, "123456 over 1234          1"),
            (1, 1234, 5, "    1 over 1234          5"),
        ):
            self.gives(wanted, count_line, x, y, number)
        self.gives("    3 over 4  1" + ",000" * 10, count_line, 3, 4, BIG)

    def test_by_their_words(self):
        for x in (0, 7, 15, 99999, 100000):
            for y in (0, 9, 10, 999, 1000):
                for number in (0, 1, 12, 123, 1234, 12345, 123456, 1234567, 12345678901, BIG):
                    self.gives(count_row(x, y, number), count_line, x, y, number)
        self.assertEqual(len(count_line(3, 4, 5)), 25)


class ListingTest(CostCase):
    def listed(self, desk):
        order = desk.now
        rows = [row("places", str(order.size)), row("steps", str(len(order.steps_told())))]
        rows += [" " * (5 - len(str(u))) + f"{u} < {v}" for u, v in order.next_steps()]
        for label, counts in (("tolls", desk.tolls_now), ("weights", desk.weights_now)):
            rows.append(row(label, str(len(counts))))
            rows += [count_row(x, y, number) for x, y, number in counts]
        top, bottom = cost(order, desk.tolls_now)
        rows.append(row("cost", with_commas(top) + ("" if bottom == 1 else "/" + with_commas(bottom))))
        rows.append(row("worth", with_commas(worth(order, desk.weights_now))))
        return self.gives("\n".join(rows), listing, desk)

    def test_by_its_words(self):
        for order in small_orders()[::9] + some_orders(5, 5, 6) + [bent(), many_lines(), chain(16)]:
            for tolls, weights in zip(few_counts(order, 2, 6, 3), few_counts(order, 2, 5, BIG)):
                desk = Desk(order, tolls=tolls, weights=weights)
                text = self.listed(desk)
                self.assertFalse(text.endswith("\n"))
                desk.turn()
                self.listed(desk)

    def test_row_for_row(self):
        desk = Desk(Order(3, [(0, 1)]), tolls=Counts([(2, 0, 1), (1, 2, 3)]))
        self.assertEqual([count_line(2, 0, 1500), listing(desk).split("\n")[3]],
                         ["    2 over 0        1,500", "tolls                   2"])
        self.assertEqual(listing(desk).split("\n"), [
            "places                  3",
            "steps                   1",
            "    0 < 1",
            "tolls                   2",
            "    1 over 2            3",
            "    2 over 0            1",
            "weights                 0",
            "cost                    3",
            "worth                   0",
        ])

    def test_fractions_and_long_numbers(self):
        ring = Counts([(1, 0, 1001), (2, 1, 1001), (0, 2, 1001)])
        desk = Desk(antichain(3), tolls=ring, weights=Counts([(1, 0, 10 ** 12)]))
        self.assertEqual(listing(desk).split("\n")[-2:], ["cost              3,003/2", "worth         1,000,000,000,000"])
        desk = Desk(antichain(3), tolls=ring * 10 ** 9)
        self.assertEqual(listing(desk).split("\n")[-2], "cost          1,501,500,000,000")
        desk = Desk(antichain(3), tolls=Counts([(1, 0, 10 ** 12), (2, 1, 10 ** 12 + 1), (0, 2, 10 ** 12)]))
        self.assertEqual(listing(desk).split("\n")[-2], "cost          3,000,000,000,001/2")
        # Of a chain of chains all steps are counted, but only the next ones told.
        self.assertEqual(listing(Desk(chain(16))).split("\n")[:4],
                         ["places                 16", "steps                 120", "    0 < 1", "    1 < 2"])
        self.assertEqual(listing(Desk(chain(16))).split("\n")[12], "   10 < 11")
        self.assertEqual(listing(Desk(chain(1))).split("\n"), [
            "places                  1", "steps                   0", "tolls                   0",
            "weights                 0", "cost                    0", "worth                   0"])

    def test_a_bottom_with_commas(self):
        # A cost with a bottom above 999 is not met by small orders: the row is made from what the desk tells.
        desk = Desk(ORDER)
        desk.states = ((ORDER, Counts(), Counts(), (1234567, 1001)),)
        self.assertEqual(listing(desk).split("\n")[-2], "cost          1,234,567/1,001")


if __name__ == "__main__":
    unittest.main()
