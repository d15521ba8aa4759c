"""linemix/rings.py, with [18] to [21]."""

import unittest
from itertools import combinations, product

from linemix.errors import BadNumber, BadPair, BadSet, NotOpen, TooMany
from linemix.orders import Order
from linemix.pairs import all_pairs, open_pairs, sure_pairs
from linemix.rings import is_ring, is_turnable, least_rings, ring_around, ring_in
from linemix.shapes import antichain, bent, chain, crown, standard
from tests.support import (
    NO_LISTS, NO_PAIRS, ORDER, Case, is_turned, lots_within, many_lines, plain_least_rings, plain_pairs, small_orders,
    some_lots, some_orders, turned_sets,
)

RING = ((1, 0), (2, 1), (0, 2))


def is_plain_ring(order, row):
    """Whether a row of pairs is a ring in ring order, by the words of [18]."""
    steps = order.steps_told()
    if len(row) < 2 or len(set(row)) < len(row):
        return False
    couples = [(pair[0], after[1]) for pair, after in zip(row, row[1:] + row[:1])]
    return all(x == y or (x, y) in steps for x, y in couples)


class IsRingTest(Case):
    def test_all_rows_of_small_lots(self):
        for order in small_orders()[::6]:
            pairs = plain_pairs(order)
            lot = tuple(pairs[:4])
            for many in range(4):
                for row in product(pairs[:5], repeat=many):
                    wanted = is_plain_ring(order, row) and set(row) <= set(lot)
                    self.gives(wanted, is_ring, order, lot, row)

    def test_examples(self):
        order = antichain(3)
        for turned in (RING, RING[1:] + RING[:1], RING[2:] + RING[:2]):
            self.gives(True, is_ring, order, RING, turned)
            self.gives(True, is_ring, order, [list(pair) for pair in RING], [list(pair) for pair in turned])
        self.gives(False, is_ring, order, RING, RING[::-1])
        self.gives(False, is_ring, order, RING[:2], RING)
        self.gives(False, is_ring, order, RING, RING[:2])
        self.gives(True, is_ring, order, ((0, 1), (1, 0)), ((1, 0), (0, 1)))
        self.gives(False, is_ring, order, (), ())
        self.gives(False, is_ring, order, RING, ((1, 0),))
        # Twice around the same ring: the pairs are not different.
        self.gives(False, is_ring, order, RING, RING + RING)
        self.gives(False, is_ring, order, RING, ((1, 0), [1, 0]))

    def test_rings_that_are_not_least(self):
        order = antichain(4)
        lot = ((0, 1), (1, 0), (2, 3), (3, 2))
        self.gives(False, is_ring, order, lot, ((1, 0), (0, 1), (2, 3), (3, 2)))
        long = ((1, 0), (2, 1), (1, 2), (0, 1))
        self.gives(True, is_ring, order, long, long)

    def test_refusals_in_their_order(self):
        for value in NO_LISTS:
            self.fails(BadPair(-2), is_ring, ORDER, value, None)
            self.fails(BadPair(-2), is_ring, ORDER, ((1, 0),), value)
        for wrong in NO_PAIRS:
            self.fails(BadPair(1), is_ring, ORDER, ((1, 0), wrong), ((1, 0), (1, 0), wrong))
            self.fails(BadPair(2), is_ring, ORDER, ((1, 0),), [(1, 0), [1, 0], wrong, wrong])
        self.fails(BadPair(1), is_ring, ORDER, ((1, 0), [1, 0]), ())


class RingInTest(Case):
    def ring(self, order, lot):
        """The ring told is a least ring: a ring in ring order, and turnable without any one of its pairs."""
        ring = self.told(ring_in, order, lot)
        self.same_kind(ring, tuple((0, 0) for _ in ring))
        self.assertTrue(set(ring) <= set(lot))
        self.assertTrue(is_plain_ring(order, ring))
        for at in range(len(ring)):
            self.assertTrue(is_turnable(order, ring[:at] + ring[at + 1:]))
        return ring

    def test_small_orders(self):
        for order in small_orders()[::3] + some_orders(6, 5, 6):
            sets = turned_sets(order)
            for lot in some_lots(order, 15, 12):
                if is_turned(lot, sets):
                    self.gives(None, ring_in, order, lot[::-1])
                else:
                    self.ring(order, lot)
            for lot in some_lots(order, 6, 7):
                if not is_turned(lot, sets):
                    self.assertIn(tuple(sorted(self.ring(order, lot))), plain_least_rings(lot, sets))

    def test_rings_of_each_size(self):
        for size in range(2, 17):
            ring = ring_around(antichain(size), tuple(range(size)))
            found = self.ring(antichain(size), ring)
            at = found.index(ring[0])
            self.assertEqual(found[at:] + found[:at], ring)
        for many in range(3, 9):
            # Each a_i is below all b's but b_i: the pairs (a_i, b_i) are pairwise against one another.
            lot = tuple((i, many + i) for i in range(many))
            self.assertEqual(len(self.ring(standard(many), lot)), 2)

    def test_edges(self):
        for order in (chain(1), chain(16), antichain(16), many_lines()):
            self.gives(None, ring_in, order, ())
            self.gives(None, ring_in, order, sure_pairs(order))
        self.ring(antichain(16), all_pairs(antichain(16)))
        self.ring(many_lines(), all_pairs(many_lines()))
        self.gives(None, ring_in, antichain(16), [(x, y) for x in range(16) for y in range(x)])
        self.ring(antichain(16), [(x, y) for x in range(16) for y in range(x)] + [(0, 15)])

    def test_refusals(self):
        for call in (ring_in, is_turnable, least_rings):
            for value in NO_LISTS:
                self.fails(BadPair(-2), call, ORDER, value)
            for wrong in NO_PAIRS:
                self.fails(BadPair(1), call, ORDER, ((2, 0), wrong))
            self.fails(BadPair(1), call, Order(2), ((1, 0), [1, 0]))


class TurnableTest(Case):
    def test_lots(self):
        for order in small_orders()[::4] + some_orders(4, 5, 6):
            sets = turned_sets(order)
            for lot in lots_within(plain_pairs(order), 2) + some_lots(order, 25, 12):
                self.gives(is_turned(lot, sets), is_turnable, order, lot)

    def test_edges(self):
        self.gives(True, is_turnable, chain(1), [])
        self.gives(True, is_turnable, chain(16), all_pairs(chain(16)))
        self.gives(False, is_turnable, antichain(2), all_pairs(antichain(2)))
        self.gives(False, is_turnable, many_lines(), open_pairs(many_lines()))


class LeastRingsTest(Case):
    def test_by_all_lines(self):
        for order in small_orders()[::6] + some_orders(10, 5, 6) + [standard(3), bent(), antichain(5)]:
            sets = turned_sets(order)
            for lot in some_lots(order, 6, 8):
                self.gives(plain_least_rings(lot, sets), least_rings, order, lot[::-1])

    def test_all_pairs_of_small_orders(self):
        # Orders of up to four places have at most 12 pairs.
        for order in small_orders():
            rings = self.told(least_rings, order, all_pairs(order))
            self.assertEqual(rings, sorted(set(rings), key=lambda ring: (len(ring), ring)))
            for ring in rings:
                self.assertFalse(is_turnable(order, ring))
                self.assertTrue(all(is_turnable(order, ring[:at] + ring[at + 1:]) for at in range(len(ring))))

    def test_numbers_of_rings(self):
        # In an antichain the least rings around k places are its rows in a circle.
        rings = self.told(least_rings, antichain(4), all_pairs(antichain(4)))
        self.assertEqual([len([ring for ring in rings if len(ring) == many]) for many in range(2, 5)], [6, 8, 6])
        ring = ring_around(antichain(12), tuple(range(12)))
        self.gives([tuple(sorted(ring))], least_rings, antichain(12), ring)

    def test_twelve_and_thirteen_pairs(self):
        order = antichain(5)
        pairs = all_pairs(order)
        self.told(least_rings, order, pairs[:12])
        self.fails(TooMany(12), least_rings, order, pairs[:13])
        self.fails(TooMany(12), least_rings, order, pairs)
        # A bound is checked behind all else, and whatever the pairs are.
        self.fails(BadPair(13), least_rings, order, pairs[:13] + ((0, 0),))
        self.fails(BadPair(13), least_rings, order, pairs[:13] + (pairs[4],))
        self.gives([], least_rings, chain(16), sure_pairs(chain(16))[:12])
        self.fails(TooMany(12), least_rings, chain(16), sure_pairs(chain(16))[:13])

    def test_edges(self):
        self.gives([], least_rings, chain(1), ())
        self.gives([], least_rings, antichain(16), [])
        self.gives([((0, 1), (1, 0))], least_rings, antichain(2), [[1, 0], [0, 1]])
        self.gives([((0, 3), (1, 4)), ((0, 3), (2, 5)), ((1, 4), (2, 5))], least_rings, standard(3),
                   [(0, 3), (1, 4), (2, 5)])

    def test_the_list_is_the_callers_own(self):
        answer = least_rings(antichain(2), ((0, 1), (1, 0)))
        answer.clear()
        self.assertEqual(least_rings(antichain(2), ((0, 1), (1, 0))), [((0, 1), (1, 0))])


class RingAroundTest(Case):
    def test_antichains(self):
        for order in small_orders() + [crown(4, reach=1), bent()]:
            for many in range(2, order.size + 1):
                for chosen in combinations(range(order.size), many):
                    unlike = [couple for couple in combinations(chosen, 2) if not order.are_open(*couple)]
                    if unlike:
                        self.fails(NotOpen(*unlike[0]), ring_around, order, chosen[::-1])
                    else:
                        wanted = tuple((chosen[(at + 1) % many], chosen[at]) for at in range(many))
                        self.gives(wanted, ring_around, order, chosen)
                        self.gives(wanted, ring_around, order, list(chosen[::-1]))

    def test_sixteen_places(self):
        ring = self.told(ring_around, antichain(16), list(range(15, -1, -1)))
        self.assertEqual(ring, tuple((z + 1, z) for z in range(15)) + ((0, 15),))

    def test_refusals_in_their_order(self):
        for value in NO_LISTS:
            self.fails(BadSet(-1), ring_around, ORDER, value)
        for wrong in (-1, 4, True, False, None, 1.0, "1", (1,), [1]):
            self.fails(BadSet(2), ring_around, ORDER, (0, 2, wrong))
        self.fails(BadSet(1), ring_around, ORDER, (1, 1))
        self.fails(NotOpen(0, 2), ring_around, ORDER, (2, 3, 1, 0))
        self.fails(NotOpen(1, 2), ring_around, ORDER, [3, 2, 1])
        for chosen in ((), [], (3,), [0]):
            self.fails(BadNumber("many"), ring_around, ORDER, chosen)


if __name__ == "__main__":
    unittest.main()
