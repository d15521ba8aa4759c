"""linemix/lots.py, with [25] and [27]."""

import unittest
from itertools import combinations

from linemix.errors import BadPair, TooMany
from linemix.leading import tight_pairs
from linemix.lots import greatest_lots, least_meetings, most_against, most_at_once, standard_from
from linemix.orders import Order
from linemix.pairs import against, all_pairs, open_pairs, pairs_against, sure_pairs
from linemix.rings import least_rings
from linemix.shapes import antichain, bent, chain, crown, standard
from tests.support import (
    NO_LISTS, NO_PAIRS, ORDER, Case, beside_all, is_turned, lots_within, many_lines, small_orders, some_lots,
    some_orders, turned_sets,
)

LISTING = (greatest_lots, least_meetings, most_at_once)


def plain_greatest(lot, sets):
    """The turnable lots within a lot that lie in no greater one: by a look at what each line turns of it."""
    parts = {tuple(pair for pair in lot if pair in turned) for turned in sets}
    return sorted(part for part in parts if not any(set(part) < set(other) for other in parts))


def plain_meetings(lot, rings):
    """All least meetings of a lot, by a look at all lots within it."""
    found = []
    for part in lots_within(lot, len(lot)):
        if all(set(part) & set(ring) for ring in rings) and not any(set(less) <= set(part) for less in found):
            found.append(part)
    return sorted(found)


class ListingTest(Case):
    def lot(self, order, lot, sets):
        greatest = self.gives(plain_greatest(lot, sets), greatest_lots, order, lot[::-1])
        left_out = sorted(tuple(pair for pair in lot if pair not in part) for part in greatest)
        self.gives(left_out, least_meetings, order, lot[::-1])
        self.gives(max(len(part) for part in greatest), most_at_once, order, lot)

    def test_all_pairs_of_small_orders(self):
        for order in small_orders():
            self.lot(order, all_pairs(order), turned_sets(order))

    def test_some_lots(self):
        for order in small_orders()[::5] + some_orders(10, 5, 6) + [standard(3), bent(), antichain(5)]:
            sets = turned_sets(order)
            for lot in some_lots(order, 5, 12):
                self.lot(order, lot, sets)

    def test_meetings_by_all_lots(self):
        for order in small_orders()[::5] + some_orders(5, 5, 6):
            for lot in some_lots(order, 4, 7):
                self.gives(plain_meetings(lot, least_rings(order, lot)), least_meetings, order, lot)

    def test_edges(self):
        for order, lot in ((chain(1), ()), (chain(16), sure_pairs(chain(16))[:12]), (antichain(16), ()),
                           (antichain(16), tuple((x, 0) for x in range(1, 13))), (many_lines(), ())):
            self.gives([lot], greatest_lots, order, lot)
            self.gives([()], least_meetings, order, lot)
            self.gives(len(lot), most_at_once, order, lot)

    def test_twelve_pairs_of_sixteen_places(self):
        # Six couples, each told both ways: one pair of each is turned.
        order = many_lines()
        couples = ((0, 15), (1, 14), (2, 13), (3, 12), (4, 11), (5, 10))
        lot = tuple(sorted(couples + tuple((y, x) for x, y in couples)))
        self.gives(6, most_at_once, order, lot)
        self.assertEqual(len(least_rings(antichain(12), [(x, (x + 1) % 12) for x in range(12)])), 1)
        self.gives(11, most_at_once, antichain(12), [(x, (x + 1) % 12) for x in range(12)])
        self.assertEqual(len(self.told(greatest_lots, antichain(4), all_pairs(antichain(4)))), 24)

    def test_thirteen_pairs(self):
        pairs = all_pairs(antichain(5))
        sure = sure_pairs(chain(16))
        for call in LISTING:
            self.told(call, antichain(5), pairs[:12])
            self.told(call, chain(16), sure[:12])
            self.fails(TooMany(12), call, antichain(5), pairs[:13])
            self.fails(TooMany(12), call, chain(16), sure[:13])
            self.fails(TooMany(12), call, antichain(16), all_pairs(antichain(16)))
            # The lot is checked first.
            self.fails(BadPair(14), call, antichain(5), pairs[:14] + (None,))
            self.fails(BadPair(13), call, antichain(5), pairs[:13] + (pairs[0],))

    def test_refusals(self):
        for call in LISTING + (standard_from,):
            for value in NO_LISTS:
                self.fails(BadPair(-2), call, ORDER, value)
            for wrong in NO_PAIRS:
                self.fails(BadPair(1), call, ORDER, ((2, 0), wrong))
            self.fails(BadPair(1), call, Order(2), ((1, 0), [1, 0]))

    def test_the_lists_are_the_callers_own(self):
        lot = ((0, 1), (1, 0))
        for call in (greatest_lots, least_meetings):
            kept = call(antichain(2), lot)
            call(antichain(2), lot).clear()
            self.assertEqual(call(antichain(2), lot), kept)


class StandardTest(Case):
    def test_standard_orders(self):
        for many in range(3, 9):
            lot = [[i, many + i] for i in range(many)]
            self.gives((tuple(range(many)), tuple(range(many, 2 * many))), standard_from, standard(many), lot[::-1])
            self.gives((tuple(range(many - 1)), tuple(range(many, 2 * many - 1))) if many > 3 else None,
                       standard_from, standard(many), lot[:-1])

    def test_all_lots_of_three_pairs(self):
        renumbered = Order(6, [(5, 1), (5, 3), (2, 0), (2, 3), (4, 0), (4, 1)])
        for order in [standard(3), renumbered, crown(4, reach=1), bent(), standard(4)] + some_orders(4, 6, 6):
            for lot in combinations(open_pairs(order), 3):
                if all(against(order, *couple) for couple in combinations(lot, 2)):
                    self.gives((tuple(x for x, _ in lot), tuple(y for _, y in lot)), standard_from, order, lot)
                else:
                    self.assertIsNone(standard_from(order, lot))

    def test_the_order_of_the_places(self):
        order = Order(6, [(5, 1), (5, 3), (2, 0), (2, 3), (4, 0), (4, 1)])
        self.gives(((2, 4, 5), (1, 3, 0)), standard_from, order, [(5, 0), (2, 1), (4, 3)])

    def test_less_than_three_pairs(self):
        self.gives(None, standard_from, antichain(2), [(0, 1), (1, 0)])
        self.gives(None, standard_from, chain(1), ())
        self.gives(None, standard_from, standard(3), [(0, 3)])
        self.gives(None, standard_from, chain(16), all_pairs(chain(16)))
        self.gives(None, standard_from, antichain(16), all_pairs(antichain(16)))


class AgainstTest(Case):
    def most(self, order):
        lot = self.told(most_against, order)
        self.same_kind(lot, tuple((0, 0) for _ in lot))
        self.assertEqual(lot, tuple(sorted(set(lot))))
        tight = tight_pairs(order)
        self.assertLessEqual(set(lot), set(tight))
        self.assertTrue(all(against(order, *couple) for couple in combinations(lot, 2)))
        many = len(lot)
        for more in combinations(tight, many + 1):
            self.assertFalse(all(other in pairs_against(order, pair) for pair, other in combinations(more, 2)))
        return many

    def test_small_orders(self):
        for order in small_orders() + [order for order in some_orders(15, 5, 6) if len(tight_pairs(order)) <= 12]:
            self.most(order)

    def test_standard_orders(self):
        for many in range(2, 9):
            self.assertEqual(self.most(standard(many)), many)
        self.assertEqual(self.most(standard(4) >> antichain(3)), 4)

    def test_no_tight_pair(self):
        self.gives((), most_against, chain(1))
        self.gives((), most_against, chain(16))

    def test_twelve_and_thirteen_tight_pairs(self):
        for twelve, many in ((antichain(4), 2), (standard(6) >> antichain(3), 6)):
            self.assertEqual(len(tight_pairs(twelve)), 12)
            self.assertEqual(self.most(twelve), many)
        thirteen = standard(5) >> antichain(2) >> antichain(3)
        self.assertEqual(len(tight_pairs(thirteen)), 13)
        for order in (thirteen, antichain(5), antichain(16), beside_all([chain(2)] * 8)):
            self.fails(TooMany(12), most_against, order)

    def test_two_against_one_another(self):
        # Wherever a pair is open, its tight pair and one against it are two; no third one is against both.
        self.assertEqual(self.most(antichain(3)), 2)
        self.assertEqual(self.most(ORDER), 2)


if __name__ == "__main__":
    unittest.main()
