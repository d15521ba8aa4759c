"""linemix/filling.py, with [56] to [58], and what [59] tells of the filled-in order."""

import unittest
from itertools import combinations

from linemix.costs import cost, full_cost, tight_ones
from linemix.counts import Counts
from linemix.errors import BadPlace, BadSet, TooMany
from linemix.filling import closed_sets, filled_in, fills, needed_places, place_in
from linemix.leading import leads, tight_pairs
from linemix.orders import Order
from linemix.pairs import all_pairs
from linemix.shapes import antichain, bent, chain, crown, stacked, standard
from linemix.wholes import dimension
from tests.support import NO_LISTS, ORDER, CostCase, few_counts, many_lines, small_orders, some_orders


def plain_closed(order, chosen):
    """Whether the set is closed, by the words of [56]."""
    highs = [high for high in range(order.size) if all(order.is_under(place, high) for place in chosen)]
    held = tuple(place for place in range(order.size) if all(order.is_under(place, high) for high in highs))
    return (held if highs else tuple(range(order.size))) == chosen


def plain_closed_sets(order):
    sets = [chosen for many in range(order.size + 1) for chosen in combinations(range(order.size), many)]
    return [chosen for chosen in sets if plain_closed(order, chosen)]


def plain_fills(order, places):
    """fills by its words."""
    pairs = all_pairs(order)
    own = [(x, y) for x, y in pairs if x in places and y in places]
    return all(pair in own or any(leads(order, other, pair) for other in own) for pair in pairs)


class ClosedSetsTest(CostCase):
    def test_example(self):
        self.assertEqual([closed_sets(antichain(2)), place_in(antichain(2), 1)], [[(), (0,), (1,), (0, 1)], 2])

    def test_by_their_words(self):
        for order in small_orders() + some_orders(15, 5, 8) + [bent(), standard(3), crown(4, reach=1)]:
            sets = self.gives(plain_closed_sets(order), closed_sets, order)
            for one, other in combinations(sets, 2):
                self.assertIn(tuple(sorted(set(one) & set(other))), sets)

    def test_known_ones(self):
        self.gives([(0,)], closed_sets, chain(1))
        self.gives([(0,), (0, 1), (0, 1, 2)], closed_sets, chain(3))
        for size in range(2, 17):
            self.assertEqual(len(closed_sets(antichain(size))), size + 2)
        self.assertEqual(len(closed_sets(chain(16))), 16)

    def test_many(self):
        self.assertEqual(len(closed_sets(standard(6))), 64)
        self.assertEqual(len(closed_sets(standard(7))), 128)
        # No order was found with 195 to 255 closed sets: the next ones on both sides of the bound.
        fewer = Order(16, [step for step in standard(8) if step != (0, 9)])
        self.assertEqual(len(quick_closed_sets(fewer)), 194)
        self.gives(quick_closed_sets(fewer), closed_sets, fewer)
        self.assertEqual([quick_closed_sets(fewer)[place_in(fewer, x)][-1] for x in range(16)], list(range(16)))
        self.assertEqual(len(quick_closed_sets(standard(8))), 256)
        self.fails(TooMany(200), closed_sets, standard(8))
        self.fails(TooMany(200), place_in, standard(8), 0)
        self.fails(BadPlace("x"), place_in, standard(8), 16)
        self.fails(TooMany(16), filled_in, standard(8))
        self.fails(TooMany(16), filled_in, fewer)


def quick_closed_sets(order):
    """The closed sets as the set of all places, what is under one place, and all meetings of these."""
    found = {tuple(range(order.size))}
    for place in range(order.size):
        reach = {low for low in range(order.size) if order.is_under(low, place)}
        found |= {tuple(sorted(reach.intersection(chosen))) for chosen in found}
    return sorted(found, key=lambda chosen: (len(chosen), chosen))


class FilledInTest(CostCase):
    def test_by_its_words(self):
        for order in small_orders() + some_orders(30, 5, 8) + [bent(), antichain(14), chain(16), stacked([3, 4])]:
            sets = quick_closed_sets(order)
            if len(sets) > 16:
                self.fails(TooMany(16), filled_in, order)
                continue
            made = self.told(filled_in, order)
            self.assertEqual(made.size, len(sets))
            self.assertEqual(list(made), [(low, high) for low in range(made.size) for high in range(made.size)
                                          if set(sets[low]) < set(sets[high])])
            spots = [self.told(place_in, order, x) for x in range(order.size)]
            self.assertEqual([sets[spot] for spot in spots],
                             [tuple(low for low in range(order.size) if order.is_under(low, x))
                              for x in range(order.size)])
            for x in range(order.size):
                for y in range(order.size):
                    self.assertEqual(order.is_under(x, y), made.is_under(spots[x], spots[y]))
            self.assertTrue(self.told(fills, made, spots))
            if order.size >= 2:
                self.assertIsNotNone(made.ends())
            self.same_costs(order, made, spots)

    def same_costs(self, order, made, spots):
        """[57], [59]."""
        for tolls in few_counts(order, 2, 5, 4):
            moved = Counts([(spots[x], spots[y], toll) for x, y, toll in tolls])
            try:
                value = cost(made, moved)
            except TooMany:
                continue
            self.assertEqual(value, cost(order, tolls))
        if 2 <= order.size and len(tight_ones(order)) <= 30:
            self.assertEqual(full_cost(made), full_cost(order))
            if len(tight_ones(order)) <= 12:
                self.assertEqual(dimension(made), dimension(order))

    def test_sixteen_and_seventeen(self):
        self.assertEqual(filled_in(antichain(14)).size, 16)
        self.fails(TooMany(16), filled_in, antichain(15))
        self.fails(TooMany(16), filled_in, antichain(16))
        self.fails(TooMany(16), filled_in, standard(8))
        self.assertEqual(filled_in(chain(16)), chain(16))
        self.assertEqual(filled_in(chain(1)), chain(1))
        self.assertEqual(list(filled_in(antichain(2))), [(0, 1), (0, 2), (0, 3), (1, 3), (2, 3)])
        # standard(3) filled in are the sets of three places.
        self.assertEqual(filled_in(standard(3)).size, 8)
        self.gives((3, 1), full_cost, filled_in(standard(3)))

    def test_filling_twice(self):
        for order in small_orders():
            made = filled_in(order)
            again = filled_in(made)
            self.assertEqual(len(again), len(made))

    def test_place_in_refusals(self):
        for wrong in (4, -1, True, False, None, "0", 1.0, (0,)):
            self.fails(BadPlace("x"), place_in, ORDER, wrong)


class FillsTest(CostCase):
    def test_by_its_words(self):
        for order in small_orders()[::2] + [bent(), standard(3), crown(3)]:
            sets = [chosen for many in range(order.size + 1) for chosen in combinations(range(order.size), many)]
            for chosen in sets:
                filled = self.gives(plain_fills(order, chosen), fills, order, chosen)
                if filled and len(chosen) >= 2:
                    below = order.on(chosen)
                    self.assertEqual(full_cost(below), full_cost(order))
                    if len(tight_pairs(order)) <= 12:
                        self.assertEqual(dimension(below), dimension(order))

    def test_by_hand(self):
        for places in ((), (0,), [0]):
            self.gives(True, fills, chain(1), places)
        self.gives(False, fills, chain(2), (0,))
        self.gives(False, fills, chain(2), ())
        self.gives(True, fills, chain(2), (1, 0))
        self.gives(False, fills, antichain(2), (1,))
        self.gives(True, fills, chain(3), (0, 1, 2))
        self.gives(False, fills, chain(3), (0, 2))
        self.gives(True, fills, antichain(16), tuple(range(16)))
        self.gives(False, fills, antichain(16), tuple(range(15)))
        self.gives(True, fills, many_lines(), list(range(15, -1, -1)))

    def test_refusals(self):
        for value in NO_LISTS:
            self.fails(BadSet(-1), fills, ORDER, value)
        for value, place in (((4,), 0), ((0, 0), 1), ((True,), 0), ((0, 1, -1), 2)):
            self.fails(BadSet(place), fills, ORDER, value)


class NeededPlacesTest(CostCase):
    def test_by_their_words(self):
        for order in small_orders() + some_orders(20, 5, 7) + [bent(), standard(8), antichain(16), many_lines()]:
            wanted = tuple(sorted({place for pair in tight_pairs(order) for place in pair}))
            if order.is_chain():
                wanted = tuple(sorted(range(order.size), key=lambda place: len(order.below(place)))[:2])
                wanted = tuple(sorted(wanted))
            self.gives(wanted, needed_places, order)

    def test_by_hand(self):
        self.gives((0,), needed_places, chain(1))
        self.gives((0, 1), needed_places, chain(2))
        self.gives((0, 1), needed_places, chain(16))
        self.gives((0, 2), needed_places, Order(3, [(2, 0), (0, 1)]))
        self.gives((0, 1, 2, 3), needed_places, ORDER)
        self.gives((1, 2), needed_places, chain(1) >> antichain(2) >> chain(3))

    def test_they_tell_the_full_cost(self):
        # [58], and [83] of sets that have all of them.
        for order in small_orders() + some_orders(20, 5, 7):
            if len(tight_pairs(order)) > 30:
                continue
            needed = needed_places(order)
            self.assertEqual(full_cost(order.on(needed)), full_cost(order))
            if len(tight_pairs(order)) <= 12:
                self.assertEqual(dimension(order.on(needed)), dimension(order))
            if not order.is_chain():
                for place in range(order.size):
                    more = sorted({*needed, place})
                    self.assertEqual(full_cost(order.on(more)), full_cost(order))


if __name__ == "__main__":
    unittest.main()
