"""linemix/shapes.py and [8]."""

import unittest

from linemix.errors import BadNumber, BadParts, TooMany
from linemix.orders import Order
from linemix.shapes import antichain, bent, chain, crown, stacked, standard
from tests.support import Case, steps_following

NO_NUMBERS = (True, False, None, 3.0, "3", (3,), [3], -1, 0)


class ShapesTest(Case):
    def shaped(self, order, size, steps):
        self.assertIs(type(order), Order)
        self.assertEqual((order.size, order.steps_told()), (size, tuple(sorted(steps))))

    def test_chain(self):
        for size in range(1, 17):
            steps = [(low, high) for high in range(size) for low in range(high)]
            self.shaped(self.told(chain, size), size, steps)

    def test_antichain(self):
        for size in range(1, 17):
            self.shaped(self.told(antichain, size), size, [])

    def test_bad_sizes(self):
        for size in NO_NUMBERS + (17, 10 ** 30):
            self.fails(BadNumber("size"), chain, size)
            self.fails(BadNumber("size"), antichain, size)

    def test_standard(self):
        for many in range(2, 9):
            steps = [(i, many + j) for i in range(many) for j in range(many) if i != j]
            self.shaped(self.told(standard, many), 2 * many, steps)
        for many in NO_NUMBERS + (1, 9, 16):
            self.fails(BadNumber("many"), standard, many)

    def test_crown(self):
        for many in range(3, 9):
            self.gives(standard(many), crown, many)
            self.gives(standard(many), crown, many, reach=0)
            for reach in range(many - 2):
                free = [(i, many + (i + further) % many) for i in range(many) for further in range(reach + 1)]
                steps = [(i, many + j) for i in range(many) for j in range(many) if (i, many + j) not in free]
                self.assertTrue(steps)
                self.shaped(self.told(crown, many, reach=reach), 2 * many, steps)
        self.shaped(crown(4, reach=1), 8, [(0, 6), (0, 7), (1, 4), (1, 7), (2, 4), (2, 5), (3, 5), (3, 6)])

    def test_bad_crowns(self):
        for many in NO_NUMBERS + (1, 2, 9):
            self.fails(BadNumber("many"), crown, many)
            self.fails(BadNumber("many"), crown, many, reach=0)
            self.fails(BadNumber("many"), crown, many, reach=None)
        for many in range(3, 9):
            for reach in (-1, many - 2, many, True, False, None, 0.0, "0", [0]):
                self.fails(BadNumber("reach"), crown, many, reach=reach)

    def test_the_reach_is_passed_by_keyword(self):
        with self.assertRaises(TypeError):
            crown(4, 1)

    def test_bent(self):
        steps = [(0, 1), (1, 2), (0, 2), (3, 4), (4, 2), (3, 2), (0, 5), (3, 5)]
        self.assertEqual(steps_following(steps), tuple(sorted(steps)))
        self.shaped(self.told(bent), 6, steps)

    def test_stacked(self):
        self.gives(Order(4, [(0, 1), (0, 2), (0, 3), (1, 3), (2, 3)]), stacked, [1, 2, 1])
        self.gives(antichain(3), stacked, (3,))
        self.gives(chain(1), stacked, [1])
        self.gives(chain(16), stacked, [1] * 16)
        self.gives(antichain(16), stacked, (16,))
        self.gives(antichain(2) >> antichain(3) >> antichain(1), stacked, [2, 3, 1])
        self.gives(antichain(5) >> antichain(11), stacked, (5, 11))

    def test_bad_stacks(self):
        for sizes in (None, 3, "3", {3}, {3: 1}, range(3)):
            self.fails(BadParts(-1), stacked, sizes)
        self.fails(BadParts(0), stacked, [])
        self.fails(BadParts(0), stacked, ())
        for wrong in NO_NUMBERS:
            self.fails(BadParts(0), stacked, [wrong])
            self.fails(BadParts(2), stacked, (1, 2, wrong, wrong))
            self.fails(BadParts(1), stacked, (20, wrong))
        for sizes in ([17], [16, 1], [1] * 17, (8, 9), [10 ** 30]):
            self.fails(TooMany(16), stacked, sizes)

    def test_later_changes_have_no_effect(self):
        sizes = [1, 2]
        order = stacked(sizes)
        sizes.append(3)
        self.assertEqual(order, Order(3, [(0, 1), (0, 2)]))


if __name__ == "__main__":
    unittest.main()
