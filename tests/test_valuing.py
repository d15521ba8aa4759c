"""linemix/valuing.py, with [110]."""

import unittest
from fractions import Fraction

from linemix.costs import full_cost
from linemix.errors import BadFraction
from linemix.shapes import crown
from linemix.valuing import crown_for, is_value
from tests.plain_support import told
from tests.support import CostCase, small_orders, some_orders

BIG = 10 ** 30
WRONG = (
    None, 1, True, "21", (), (1,), (1, 2, 3), [3, 1], {2: 1, 3: 1}, (1, 0), (1, -1), (True, 1), (3, True), (3, False),
    (1.0, 1), (1, 1.0), ("3", "1"), (None, 1), ((3,), 1), Fraction(3, 1), (-3, -1),
)


class IsValueTest(CostCase):
    def test_by_its_words(self):
        for bottom in range(1, 13):
            for top in range(-15, 40):
                value = Fraction(top, bottom)
                self.gives(value in (0, 1) or value >= 2, is_value, (top, bottom))

    def test_edges(self):
        for value, wanted in (((0, BIG), True), ((BIG, BIG), True), ((2 * BIG - 1, BIG), False), ((BIG, 1), True),
                              ((BIG + 1, BIG), False), ((2 * 10 ** 29, 10 ** 29), True), ((-BIG, 1), False),
                              ((-BIG, BIG), False), ((6, 3), True), ((3, 2), False), ((1, BIG), False), ((5, 5), True)):
            self.gives(wanted, is_value, value)

    def test_full_costs_are_values(self):
        for order in small_orders()[::3] + some_orders(20, 5, 6):
            self.assertTrue(is_value(full_cost(order)))

    def test_refusals(self):
        for call in (is_value, crown_for):
            for wrong in WRONG:
                self.fails(BadFraction("value"), call, wrong)


class CrownForTest(CostCase):
    def plain(self, value):
        """The least crown with this value, by a look at each number of places in turn."""
        for many in range(3, 200):
            wide = Fraction(2 * many) / value
            if wide.denominator == 1 and wide >= 2 and many >= wide + 1:
                return many, int(wide) - 2
        return None

    def test_by_its_words(self):
        for bottom in range(1, 11):
            for top in range(-3, 50):
                value = Fraction(top, bottom)
                self.gives(self.plain(value) if value > 2 else None, crown_for, (top, bottom))

    def test_it_has_this_cost(self):
        for many in range(3, 7):
            for reach in range(many - 2):
                value = full_cost(crown(many, reach=reach))
                found = crown_for(value)
                self.assertLessEqual(found[0], many)
                self.assertEqual(full_cost(crown(found[0], reach=found[1])), value)

    def test_great_numbers(self):
        for top, bottom in ((2 * BIG + 1, BIG), (2 * BIG + 2, BIG), (BIG, 1), (BIG + 1, 1), (BIG, 3), (4 * BIG, BIG),
                            (10 ** 30, 10 ** 29 + 7), (2 * 10 ** 29 + 1, 10 ** 29), (6 * BIG, 2 * BIG)):
            many, reach = self.told(crown_for, (top, bottom))
            self.assertTrue(reach >= 0 and many >= reach + 3)
            self.assertEqual(Fraction(2 * many, reach + 2), Fraction(top, bottom))
            # A lesser crown would have a value with a lesser number above or below.
            value = Fraction(top, bottom)
            least = value.numerator // 2 if value.numerator % 2 == 0 else value.numerator
            self.assertEqual(many, 2 * least if value.denominator == 1 and value.numerator % 2 == 0 else least)
        self.gives((2 * BIG + 1, 2 * BIG - 2), crown_for, (2 * BIG + 1, BIG))
        self.gives((BIG + 1, BIG - 2), crown_for, (2 * BIG + 2, BIG))

    def test_by_hand(self):
        self.assertEqual((crown_for((8, 3)), crown_for((4, 1)), crown_for((2, 1)), is_value((3, 2)), is_value((6, 3))),
                         ((4, 1), (4, 0), None, False, True))
        self.gives((3, 0), crown_for, (3, 1))
        self.gives((3, 0), crown_for, (30, 10))
        self.gives((5, 2), crown_for, (5, 2))
        self.gives(None, crown_for, (0, 1))
        self.gives(None, crown_for, (-8, 3))
        self.assertEqual(told(Fraction(8, 3)), (8, 3))


if __name__ == "__main__":
    unittest.main()
