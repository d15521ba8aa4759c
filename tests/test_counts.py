"""linemix/counts.py, with [31]."""

import operator
import unittest
from itertools import product

from linemix.counts import Counts, check_fit, kept_on
from linemix.errors import BadCounts, BadNumber, BadPair, Unfit
from linemix.orders import Order
from linemix.pairs import all_pairs
from linemix.shapes import antichain, chain
from tests.support import NO_LISTS, ORDER, Case, many_lines, plain_pairs, small_orders, some_counts, some_orders

BIG = 10 ** 30
Q = Counts([(1, 0, 2), (0, 1, 3), (5, 2, BIG), (4, 4, 1), (7, 0, 0)])
NO_NUMBERS = (-1, -BIG, True, False, None, 1.0, "1", (1,), [1])


def at(counts, x, y):
    return counts[x, y]


class MadeTest(Case):
    def test_rows(self):
        self.assertEqual(list(Q), [(0, 1, 3), (1, 0, 2), (4, 4, 1), (5, 2, BIG)])
        for rows in ((), [], ((0, 1, 0),), [[3, 3, 0], [BIG, 0, 0]]):
            self.assertEqual(list(Counts(rows)), [])
        self.assertEqual(list(Counts()), [])
        self.assertEqual(list(Counts([[BIG, 0, 1], (0, BIG, 2)])), [(0, BIG, 2), (BIG, 0, 1)])

    def test_iteration(self):
        for row in Q:
            self.assertIs(type(row), tuple)
            for part in row:
                self.assertIs(type(part), int)
        self.assertEqual([list(Q), list(Q)], [[*Q], [*Q]])
        self.assertEqual([(a, b) for a in Q for b in Q], list(product(Q, repeat=2)))

    def test_len(self):
        self.assertEqual([len(Q), len(Counts()), len(Counts([(0, 1, 0)])), len(Counts.ones(antichain(16)))],
                         [4, 0, 0, 240])

    def test_refusals(self):
        for value in NO_LISTS + (Q, {}):
            self.fails(BadCounts(-1), Counts, value)
        for wrong in NO_NUMBERS:
            for entry in ((wrong, 1, 1), (1, wrong, 1), [1, 2, wrong]):
                self.fails(BadCounts(0), Counts, [entry])
                self.fails(BadCounts(2), Counts, ((0, 1, 1), (1, 0, 0), entry, entry, None))
        for wrong in (None, 1, "011", {0, 1, 2}, range(3), (), (0, 1), [0, 1, 1, 1], ((0, 1), 1), Q):
            self.fails(BadCounts(1), Counts, ((0, 1, 1), wrong))
        for again in ((0, 1, 1), [0, 1, 2], (0, 1, 0)):
            self.fails(BadCounts(1), Counts, [(0, 1, 1), again])
            # An entry with number 0 counts as an earlier one too.
            self.fails(BadCounts(2), Counts, [(0, 1, 0), (1, 0, 1), again, None])

    def test_later_changes_have_no_effect(self):
        rows = [[0, 1, 2], [1, 0, 3]]
        counts = Counts(rows)
        rows[0][2] = 9
        rows.clear()
        self.assertEqual(list(counts), [(0, 1, 2), (1, 0, 3)])


class SignsTest(Case):
    def test_items(self):
        for x, y, number in ((0, 1, 3), (1, 0, 2), (4, 4, 1), (5, 2, BIG), (7, 0, 0), (2, 5, 0), (0, 0, 0), (BIG, 1, 0)):
            self.gives(number, at, Q, x, y)
            self.assertIs((x, y) in Q, number > 0)
            self.assertIs((x, y) not in Q, number == 0)

    def test_nothing_is_refused_for_integers(self):
        for x, y in ((-1, 0), (0, -1), (-BIG, BIG), (17, 40)):
            self.gives(0, at, Q, x, y)
            self.assertIs((x, y) in Q, False)

    def test_sums(self):
        other = Counts([(0, 1, 1), (2, 2, 5), (4, 4, 0)])
        self.gives(Counts([(0, 1, 4), (1, 0, 2), (2, 2, 5), (4, 4, 1), (5, 2, BIG)]), operator.add, Q, other)
        self.gives(Q, operator.add, Q, Counts())
        self.gives(Q, operator.add, Counts(), Q)
        for one, more in product(some_counts(ORDER, 6, 3), repeat=2):
            made = self.gives(more + one, operator.add, one, more)
            for x, y in product(range(5), repeat=2):
                self.assertEqual(made[x, y], one[x, y] + more[x, y])
            self.assertEqual(list(made), sorted(row for row in made if row[2]))

    def test_products(self):
        self.gives(Counts([(1, 0, 6), (0, 1, 9), (5, 2, 3 * BIG), (4, 4, 3)]), operator.mul, Q, 3)
        self.gives(Q, operator.mul, Q, 1)
        self.gives(Counts(), operator.mul, Q, 0)
        self.gives(Counts(), operator.mul, Counts(), BIG)
        self.gives(BIG ** 2, at, Q * BIG, 5, 2)
        for wrong in NO_NUMBERS:
            self.fails(BadNumber("factor"), operator.mul, Q, wrong)
            self.fails(BadNumber("factor"), operator.mul, Counts(), wrong)

    def test_equal(self):
        for one, other in product(some_counts(ORDER, 8, 1) + some_counts(chain(2), 4, 2), repeat=2):
            same = list(one) == list(other)
            self.assertIs(one == other, same)
            self.assertIs(one != other, not same)
        self.assertTrue(Q == Counts([[5, 2, BIG], [4, 4, 1], (1, 0, 2), (0, 1, 3)]))
        self.assertTrue(Counts() == Counts([(0, 1, 0)]))
        self.assertFalse(Q == Q.with_count(0, 1, 4))

    def test_unlike_what_is_no_counts(self):
        for value in (None, 0, 4, [], (), list(Q), tuple(Q), {}, "Counts", Counts, chain(2)):
            self.assertIs(Q == value, False)
            self.assertIs(value == Q, False)
            self.assertIs(Q != value, True)
            self.assertIs(Counts() == value, False)


class MethodsTest(Case):
    def test_with_count(self):
        self.gives(Counts([(1, 0, 2), (0, 1, 9), (5, 2, BIG), (4, 4, 1)]), Q.with_count, 0, 1, 9)
        self.gives(Counts([(1, 0, 2), (5, 2, BIG), (4, 4, 1)]), Q.with_count, 0, 1, 0)
        self.gives(Q, Q.with_count, 0, 1, 3)
        self.gives(Q, Q.with_count, 8, 9, 0)
        self.gives(Counts([(3, 3, BIG)]), Counts().with_count, 3, 3, BIG)
        self.assertEqual(list(Q.with_count(0, 0, 1))[0], (0, 0, 1))

    def test_with_count_refuses_in_order(self):
        for wrong in NO_NUMBERS:
            self.fails(BadPair(-1), Q.with_count, wrong, 0, None)
            self.fails(BadPair(-1), Q.with_count, 0, wrong, None)
            self.fails(BadNumber("number"), Q.with_count, 0, 1, wrong)

    def test_product_sum(self):
        self.gives(0, Q.product_sum, Counts())
        self.gives(0, Counts().product_sum, Q)
        self.gives(4 + 9 + BIG ** 2 + 1, Q.product_sum, Q)
        for one, other in product(some_counts(ORDER, 6, 4), repeat=2):
            wanted = sum(one[x, y] * other[x, y] for x, y in product(range(4), repeat=2))
            self.gives(wanted, one.product_sum, other)

    def test_sums_and_greatest(self):
        self.gives(BIG + 6, Q.total_count)
        self.gives(BIG, Q.greatest_count)
        self.gives(0, Counts().total_count)
        self.gives(0, Counts().greatest_count)
        self.gives(0, Counts([(0, 1, 0)]).greatest_count)

    def test_covers_all(self):
        self.gives(True, Q.covers_all, Q)
        self.gives(True, Q.covers_all, Counts())
        self.gives(False, Counts().covers_all, Q)
        self.gives(True, Counts().covers_all, Counts([(0, 1, 0)]))
        for one, other in product(some_counts(ORDER, 8, 2), repeat=2):
            wanted = all(one[x, y] >= other[x, y] for x, y in product(range(4), repeat=2))
            self.gives(wanted, one.covers_all, other)
            self.gives(True, (one + other).covers_all, other)

    def test_ones(self):
        for order in small_orders() + some_orders(5, 5, 16):
            self.gives(Counts([(x, y, 1) for x, y in plain_pairs(order)]), Counts.ones, order)
        self.gives(Counts(), Counts.ones, chain(1))

    def test_at(self):
        self.gives(Counts([(0, 1, 1), (3, 3, 1)]), Counts.at, [(3, 3), [0, 1]])
        self.gives(Counts([(0, 1, BIG), (BIG, 3, BIG)]), Counts.at, ((BIG, 3), (0, 1)), number=BIG)
        self.gives(Counts(), Counts.at, [(0, 1)], number=0)
        self.gives(Counts(), Counts.at, ())
        self.gives(Counts.ones(ORDER), Counts.at, all_pairs(ORDER))

    def test_at_refuses_in_order(self):
        for value in NO_LISTS:
            self.fails(BadPair(-2), Counts.at, value, number=None)
        for wrong in NO_NUMBERS:
            self.fails(BadPair(1), Counts.at, ((0, 1), (wrong, 1), None), number=None)
            self.fails(BadPair(1), Counts.at, ((0, 1), [1, wrong]))
            self.fails(BadNumber("number"), Counts.at, ((0, 1),), number=wrong)
            self.fails(BadNumber("number"), Counts.at, (), number=wrong)
        for wrong in (None, 1, "01", {0, 1}, (), (0,), (0, 1, 2), range(2)):
            self.fails(BadPair(0), Counts.at, [wrong])
        self.fails(BadPair(2), Counts.at, ((0, 1), (1, 0), [0, 1]), number=-1)
        with self.assertRaises(TypeError):
            Counts.at([(0, 1)], 2)


class OrderTest(Case):
    def test_fitting(self):
        for order in small_orders()[::3] + [chain(16), antichain(16), many_lines()]:
            self.gives(None, check_fit, order, Counts())
            self.gives(None, check_fit, order, Counts.ones(order))
            self.gives(Counts.ones(order), kept_on, order, Counts.ones(order))
            wrong = [(x, y) for x, y in product(range(order.size + 2), repeat=2) if (x, y) not in plain_pairs(order)]
            for x, y in wrong:
                counts = Counts.ones(order) + Counts([(x, y, BIG)])
                self.fails(Unfit(x, y), check_fit, order, counts)
                self.gives(Counts.ones(order), kept_on, order, counts)
                self.gives(None, check_fit, order, Counts([(x, y, 0)]))
            self.fails(Unfit(*wrong[0]), check_fit, order, Counts.at(wrong))
            self.gives(Counts(), kept_on, order, Counts.at(wrong, number=3))

    def test_the_first_pair_ascending(self):
        self.fails(Unfit(0, 1), check_fit, chain(2), Counts([(1, 0, 2), (0, 1, 3)]))
        self.fails(Unfit(1, 2), check_fit, chain(3), Counts([(2, 2, 1), (1, 2, 3), (2, 0, 1), (1, 0, 1)]))
        self.fails(Unfit(1, 1), check_fit, antichain(2), Counts([(1, 1, 1), (1, 2, 1), (2, 0, 1)]))

    def test_kept_ones_keep_their_numbers(self):
        counts = Counts([(0, 1, 3), (1, 0, 2), (2, 2, 7), (2, 0, 5), (3, 0, 1)])
        self.gives(Counts([(1, 0, 2), (2, 0, 5)]), kept_on, chain(3), counts)
        self.gives(Counts([(0, 1, 3), (1, 0, 2), (2, 0, 5)]), kept_on, Order(3, [(0, 2)]), counts)


if __name__ == "__main__":
    unittest.main()
