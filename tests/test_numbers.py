"""linemix/numbers.py and [3]."""

import unittest
from fractions import Fraction

from linemix.errors import BadNumber
from linemix.numbers import add_up, check_number, greater_of, is_at_least, is_at_most, is_int, lowest, scaled
from linemix.shapes import chain
from tests.support import Case

NO_INTEGERS = (True, False, None, 1.0, "1", b"1", (1,), [1], {}, {1: 1}, {1}, chain(1), int, Fraction(1))
NUMBERS = tuple(range(-7, 8))
FRACTIONS = tuple(sorted({lowest(top, bottom) for top in NUMBERS for bottom in range(1, 8)}))


def fraction(pair):
    return Fraction(pair[0], pair[1])


class NumbersTest(Case):
    def exact(self, answer, wanted):
        """The answer is the fraction wanted, in lowest terms."""
        self.assertEqual(answer, (wanted.numerator, wanted.denominator))
        self.assertIs(type(answer), tuple)
        self.assertEqual([type(part) for part in answer], [int, int])

    def test_is_int(self):
        for value in (0, 1, -1, 10 ** 30, -10 ** 30):
            self.gives(True, is_int, value)
        for value in NO_INTEGERS:
            self.gives(False, is_int, value)

    def test_is_at_least(self):
        for value in (3, 4, 10 ** 30):
            self.gives(True, is_at_least, value, 3)
        for value in NO_INTEGERS + (2, 0, -10 ** 30):
            self.gives(False, is_at_least, value, 3)
        self.gives(False, is_at_least, True, 0)

    def test_check_number_returns_what_is_in_range(self):
        for value in (3, 4, 5):
            self.gives(value, check_number, value, "many", 3, 5)
        self.gives(0, check_number, 0, "many", 0, 0)
        self.gives(-2, check_number, -2, "many", -2, -1)
        self.gives(10 ** 40, check_number, 10 ** 40, "many", 3, None)
        self.gives(3, check_number, 3, "many", 3, None)

    def test_check_number_refuses_the_rest(self):
        for value in (2, 6, -3, 10 ** 30):
            self.fails(BadNumber("many"), check_number, value, "many", 3, 5)
        self.fails(BadNumber("x"), check_number, 2, "x", 3, None)
        for value in NO_INTEGERS:
            self.fails(BadNumber("size"), check_number, value, "size", 0, 5)
            self.fails(BadNumber("size"), check_number, value, "size", 0, None)

    def test_lowest(self):
        self.gives((2, 3), lowest, 4, 6)
        self.gives((-2, 3), lowest, 4, -6)
        self.gives((-2, 3), lowest, -4, 6)
        self.gives((2, 3), lowest, -4, -6)
        self.gives((0, 1), lowest, 0, -6)
        self.gives((0, 1), lowest, 0, 6)
        self.gives((5, 1), lowest, 5, 1)
        self.gives((10 ** 30, 3), lowest, 10 ** 60, 3 * 10 ** 30)
        for top in NUMBERS:
            for bottom in NUMBERS:
                if bottom != 0:
                    self.exact(lowest(top, bottom), Fraction(top, bottom))

    def test_lowest_refuses(self):
        for value in NO_INTEGERS:
            self.fails(BadNumber("top"), lowest, value, 1)
            self.fails(BadNumber("bottom"), lowest, 1, value)
            self.fails(BadNumber("top"), lowest, value, 0)
        self.fails(BadNumber("bottom"), lowest, 1, 0)
        self.fails(BadNumber("bottom"), lowest, 0, 0)

    def test_two_fractions(self):
        for one in FRACTIONS:
            for other in FRACTIONS:
                self.exact(add_up(one, other), fraction(one) + fraction(other))
                self.exact(greater_of(one, other), max(fraction(one), fraction(other)))
                self.assertIs(is_at_most(one, other), fraction(one) <= fraction(other))

    def test_scaled(self):
        for one in FRACTIONS:
            for number in NUMBERS + (10 ** 30,):
                self.exact(scaled(one, number), fraction(one) * number)

    def test_single_values(self):
        self.gives((5, 6), add_up, (1, 2), (1, 3))
        self.gives((1, 1), add_up, (1, 2), (1, 2))
        self.gives((1, 2), greater_of, (1, 3), (1, 2))
        self.gives((1, 2), greater_of, (1, 2), (1, 3))
        self.gives(True, is_at_most, (1, 2), (1, 2))
        self.gives(False, is_at_most, (1, 2), (1, 3))
        self.gives((3, 1), scaled, (1, 2), 6)
        self.gives((0, 1), scaled, (1, 2), 0)


if __name__ == "__main__":
    unittest.main()
