"""linemix/pairs.py, with [16] and [17]."""

import unittest
from itertools import combinations, product

from linemix.errors import BadPair
from linemix.orders import Order
from linemix.pairs import against, all_pairs, is_quiet, lot_of, open_pairs, pair_in, pairs_against, sure_pairs
from linemix.shapes import antichain, chain, standard
from tests.support import NO_LISTS, NO_PAIRS, ORDER, Case, lots_within, plain_pairs, small_orders, some_lots, some_orders


def under(order, x, y):
    return x == y or (x, y) in order.steps_told()


def plain_against(order, pair, other):
    return under(order, pair[0], other[1]) and under(order, other[0], pair[1])


class PairInTest(Case):
    def test_each_couple_of_places(self):
        for order in small_orders() + some_orders(5, 5, 16):
            pairs = plain_pairs(order)
            for couple in product(range(order.size), repeat=2):
                for value in (couple, list(couple)):
                    if couple in pairs:
                        self.gives(couple, pair_in, order, value)
                    else:
                        self.fails(BadPair(-1), pair_in, order, value)

    def test_refusals(self):
        for wrong in NO_PAIRS:
            self.fails(BadPair(-1), pair_in, ORDER, wrong)
        self.fails(BadPair(-1), pair_in, chain(1), (0, 0))
        self.fails(BadPair(-1), pair_in, antichain(16), (0, 16))

    def test_later_changes_have_no_effect(self):
        value = [2, 0]
        pair = pair_in(ORDER, value)
        value.reverse()
        self.assertEqual(pair, (2, 0))


class LotOfTest(Case):
    def test_lots_in_any_order(self):
        self.gives((), lot_of, ORDER, ())
        self.gives((), lot_of, ORDER, [])
        self.gives((), lot_of, chain(1), [])
        self.gives(((0, 1), (1, 0), (2, 0), (3, 2)), lot_of, ORDER, [(3, 2), [1, 0], (2, 0), [0, 1]])
        for order in small_orders():
            pairs = plain_pairs(order)
            self.gives(tuple(sorted(pairs)), lot_of, order, pairs[::-1])
            self.gives(tuple(sorted(pairs)), lot_of, order, tuple([list(pair) for pair in pairs[::-1]]))

    def test_refusals(self):
        for value in NO_LISTS:
            self.fails(BadPair(-2), lot_of, ORDER, value)
        for wrong in NO_PAIRS:
            self.fails(BadPair(0), lot_of, ORDER, [wrong])
            self.fails(BadPair(0), lot_of, ORDER, (wrong, (2, 0), (2, 0)))
            self.fails(BadPair(2), lot_of, ORDER, ((2, 0), [1, 0], wrong, wrong))
        self.fails(BadPair(1), lot_of, ORDER, ((2, 0), (2, 0)))
        self.fails(BadPair(2), lot_of, ORDER, ((2, 0), (1, 0), [2, 0], None))
        # A pair alone is no lot of pairs.
        self.fails(BadPair(0), lot_of, ORDER, (2, 0))

    def test_later_changes_have_no_effect(self):
        value = [[2, 0], [1, 0]]
        lot = lot_of(ORDER, value)
        value[0][0] = 3
        value.clear()
        self.assertEqual(lot, ((1, 0), (2, 0)))


class ListsTest(Case):
    def test_all_open_and_sure_pairs(self):
        for order in small_orders() + some_orders(10, 5, 16):
            pairs = sorted(plain_pairs(order))
            steps = order.steps_told()
            self.gives(tuple(pairs), all_pairs, order)
            self.gives(tuple((x, y) for x, y in pairs if (y, x) not in steps), open_pairs, order)
            self.gives(tuple((x, y) for x, y in pairs if (y, x) in steps), sure_pairs, order)

    def test_ends_of_the_range(self):
        for call in (all_pairs, open_pairs, sure_pairs):
            self.gives((), call, chain(1))
        self.gives((), open_pairs, chain(16))
        self.gives((), sure_pairs, antichain(16))
        self.assertEqual(len(all_pairs(antichain(16))), 240)
        self.gives(tuple((x, y) for x in range(16) for y in range(x)), sure_pairs, chain(16))
        self.gives(((0, 1), (0, 3), (1, 0), (2, 3), (3, 0), (3, 2)), open_pairs, ORDER)
        self.gives(((2, 0), (2, 1), (3, 1)), sure_pairs, ORDER)


class AgainstTest(Case):
    def test_each_couple_of_pairs(self):
        for order in small_orders()[::3] + some_orders(3, 5, 6):
            for pair, other in product(plain_pairs(order), repeat=2):
                self.gives(plain_against(order, pair, other), against, order, pair, list(other))

    def test_examples(self):
        self.gives(True, against, antichain(2), (0, 1), (1, 0))
        self.gives(False, against, antichain(2), (0, 1), (0, 1))
        self.gives(False, against, antichain(3), (0, 1), (1, 2))
        self.gives(True, against, standard(3), (0, 3), (1, 4))
        # (0, 3): 3 over 1; (3, 2): 0 under 2.
        self.gives(True, against, ORDER, (0, 3), (3, 2))
        self.gives(False, against, ORDER, (2, 0), (0, 3))

    def test_pairs_against(self):
        for order in small_orders() + some_orders(5, 5, 9):
            pairs = plain_pairs(order)
            for pair in pairs:
                wanted = tuple(other for other in sorted(pairs) if plain_against(order, pair, other))
                self.gives(wanted, pairs_against, order, list(pair))
        self.gives(((1, 0),), pairs_against, antichain(16), (0, 1))
        self.gives((), pairs_against, chain(16), (15, 0))

    def test_refusals_in_their_order(self):
        for wrong in NO_PAIRS:
            self.fails(BadPair(-1), pairs_against, ORDER, wrong)
            self.fails(BadPair(-1), against, ORDER, wrong, (1, 0))
            self.fails(BadPair(-1), against, ORDER, (1, 0), wrong)


class QuietTest(Case):
    def test_lots(self):
        for order in small_orders()[::5]:
            for lot in lots_within(plain_pairs(order), 3):
                wanted = not any(plain_against(order, *couple) for couple in combinations(lot, 2))
                self.gives(wanted, is_quiet, order, lot[::-1])
        for order in some_orders(5, 5, 16):
            for lot in some_lots(order, 10, 6):
                wanted = not any(plain_against(order, *couple) for couple in combinations(lot, 2))
                self.gives(wanted, is_quiet, order, lot)

    def test_edges(self):
        self.gives(True, is_quiet, chain(1), ())
        self.gives(True, is_quiet, chain(16), all_pairs(chain(16)))
        self.gives(True, is_quiet, antichain(16), [(x, y) for x in range(16) for y in range(x)])
        self.gives(False, is_quiet, antichain(16), all_pairs(antichain(16)))
        self.gives(True, is_quiet, antichain(3), [(0, 1), (1, 2), (2, 0)])

    def test_refusals(self):
        for value in NO_LISTS:
            self.fails(BadPair(-2), is_quiet, ORDER, value)
        for wrong in NO_PAIRS:
            self.fails(BadPair(1), is_quiet, ORDER, ((2, 0), wrong))
        self.fails(BadPair(1), is_quiet, Order(2), ((1, 0), [1, 0]))


if __name__ == "__main__":
    unittest.main()
