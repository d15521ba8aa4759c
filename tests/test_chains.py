"""linemix/chains.py, with [26] and [28]."""

import unittest
from itertools import combinations, product
from random import Random

from linemix.chains import (
    both_line, chain_cover, heaviest, high_line, is_a_chain, is_an_antichain, loaded_cover, low_line, widest, width,
)
from linemix.errors import AreOpen, BadRates, BadSet
from linemix.lines import is_line
from linemix.orders import Order
from linemix.shapes import antichain, bent, chain, crown, standard
from tests.support import (
    NO_LISTS, ORDER, Case, beside_all, is_turned, many_lines, orders_of, small_orders, some_orders, turned_by,
    turned_sets,
)

BIG = 10 ** 30
NO_LOADS = (-1, True, False, None, 1.0, "1", (1,), [1], -BIG)


def sets_of(order):
    return [chosen for many in range(order.size + 1) for chosen in combinations(range(order.size), many)]


def all_open(order, chosen):
    return all(order.are_open(*couple) for couple in combinations(chosen, 2))


def none_open(order, chosen):
    return not any(order.are_open(*couple) for couple in combinations(chosen, 2))


def antichains(order):
    return [chosen for chosen in sets_of(order) if all_open(order, chosen)]


def chains_in(order):
    return [chosen for chosen in sets_of(order) if none_open(order, chosen)]


def some_loads(order, many, most):
    dice = Random(f"{order.size} {order.steps_told()} {many} {most}")
    return [[dice.choice([0, 1, dice.randint(0, most)]) for _ in range(order.size)] for _ in range(many)]


class LoadsTest(Case):
    def loads(self, order, loads, most=None):
        """Check both functions; most is the greatest sum over an antichain, where it is known."""
        number, places = self.told(heaviest, order, loads)
        self.assertIs(type(number), int)
        self.assertEqual(places, tuple(sorted(set(places))))
        self.assertTrue(all_open(order, places))
        self.assertEqual(sum(loads[place] for place in places), number)
        self.cover(order, loads, number)
        if most is not None:
            self.assertEqual(number, most)

    def cover(self, order, loads, number):
        """As many chains as this show that no antichain has a greater sum than number."""
        cover = self.told(loaded_cover, order, loads)
        self.same_kind(cover, [(tuple(chosen), many) for chosen, many in cover])
        for chosen, many in cover:
            self.assertTrue(chosen and chosen == tuple(sorted(set(chosen))))
            self.assertTrue(none_open(order, chosen))
            self.assertIs(type(many), int)
            self.assertGreaterEqual(many, 1)
        self.assertEqual(len({chosen for chosen, _ in cover}), len(cover))
        for place in range(order.size):
            self.assertEqual(sum(many for chosen, many in cover if place in chosen), loads[place])
        self.assertEqual(sum(many for _, many in cover), number)

    def test_by_all_antichains(self):
        for order in small_orders()[::2] + some_orders(20, 5, 8) + [bent(), crown(4, reach=1), standard(3)]:
            found = antichains(order)
            for loads in some_loads(order, 4, 5) + some_loads(order, 2, BIG):
                self.loads(order, loads, max(sum(loads[place] for place in chosen) for chosen in found))

    def test_all_small_loads(self):
        for order in orders_of(3):
            for loads in product(range(3), repeat=3):
                most = max(sum(loads[place] for place in chosen) for chosen in antichains(order))
                self.loads(order, loads, most)

    def test_examples(self):
        self.gives((7, (2, 3)), heaviest, ORDER, [1, 2, 3, 4])
        self.gives((7, (2, 3)), heaviest, ORDER, (1, 2, 3, 4))
        self.gives((3 * BIG, (0, 1, 2)), heaviest, antichain(3), [BIG] * 3)
        self.gives((BIG, (3,)), heaviest, chain(4), [1, 2, 3, BIG])
        self.loads(ORDER, [BIG, 1, BIG, 1], BIG + 1)

    def test_no_loads(self):
        for order in (chain(1), chain(16), antichain(16), ORDER, many_lines()):
            self.loads(order, [0] * order.size, 0)
            self.gives([], loaded_cover, order, [0] * order.size)
            for place in range(order.size):
                loads = [0] * order.size
                loads[place] = BIG
                self.gives((BIG, (place,)), heaviest, order, loads)
                self.gives([((place,), BIG)], loaded_cover, order, loads)

    def test_sixteen_places(self):
        for order in (antichain(16), chain(16), many_lines(), standard(8), crown(8, reach=4), chain(4) * chain(4),
                      beside_all([chain(2)] * 8), antichain(8) >> antichain(8)):
            for loads in some_loads(order, 3, BIG):
                self.loads(order, loads)
        dice = Random("16")
        parts = many_lines()
        loads = [dice.randint(0, BIG) for _ in range(16)]
        tops = [max(loads[2 * at:2 * at + 2]) for at in range(5)] + [max(loads[10:13]), max(loads[13:16])]
        self.loads(parts, loads, sum(tops))
        self.loads(antichain(16), loads, sum(loads))
        self.loads(chain(16), loads, max(loads))

    def test_refusals(self):
        for call in (heaviest, loaded_cover):
            for value in NO_LISTS:
                self.fails(BadRates(-1), call, ORDER, value)
            for wrong in NO_LOADS:
                self.fails(BadRates(0), call, ORDER, [wrong])
                self.fails(BadRates(2), call, ORDER, (1, 0, wrong, wrong, 2))
                # Each entry is asked for first, then their number.
                self.fails(BadRates(5), call, ORDER, [1, 1, 1, 1, 1, wrong])
            for many in (0, 1, 3, 5, 17):
                self.fails(BadRates(many), call, ORDER, [1] * many)
            self.fails(BadRates(0), call, chain(1), ())

    def test_later_changes_have_no_effect(self):
        loads = [1, 2, 3, 4]
        answer = loaded_cover(ORDER, loads)
        kept = list(answer)
        loads[0] = 9
        self.assertEqual(answer, kept)
        answer.clear()
        self.assertEqual(loaded_cover(ORDER, [1, 2, 3, 4]), kept)


class WidthTest(Case):
    def test_by_all_antichains(self):
        for order in small_orders() + some_orders(15, 5, 8) + [bent(), crown(4, reach=1), standard(4)]:
            most = max(len(chosen) for chosen in antichains(order))
            self.width(order, most)

    def width(self, order, most):
        self.gives(most, width, order)
        chosen = self.told(widest, order)
        self.assertIs(type(chosen), tuple)
        self.assertEqual(len(chosen), most)
        self.assertEqual(chosen, tuple(sorted(set(chosen))))
        self.assertTrue(all_open(order, chosen))
        cover = self.told(chain_cover, order)
        self.assertIs(type(cover), list)
        self.assertEqual(len(cover), most)
        self.assertEqual(sorted(place for chosen in cover for place in chosen), list(range(order.size)))
        for chosen in cover:
            self.assertIs(type(chosen), tuple)
            self.assertEqual(chosen, tuple(sorted(chosen)))
            self.assertTrue(none_open(order, chosen))

    def test_sixteen_places(self):
        for order, most in ((antichain(16), 16), (chain(16), 1), (many_lines(), 7), (standard(8), 8), (chain(1), 1),
                            (chain(4) * chain(4), 4), (beside_all([chain(2)] * 8), 8), (antichain(7) >> antichain(9), 9),
                            (chain(2) * chain(2) * chain(2) * chain(2), 6)):
            self.width(order, most)


class SetsTest(Case):
    def test_all_sets(self):
        for order in small_orders() + [bent()]:
            for chosen in sets_of(order):
                self.gives(none_open(order, chosen), is_a_chain, order, chosen[::-1])
                self.gives(all_open(order, chosen), is_an_antichain, order, list(chosen[::-1]))

    def test_sixteen_places(self):
        self.gives(True, is_a_chain, chain(16), tuple(range(16)))
        self.gives(False, is_a_chain, antichain(16), tuple(range(16)))
        self.gives(True, is_an_antichain, antichain(16), tuple(range(16)))
        self.gives(False, is_an_antichain, many_lines(), (0, 2, 4, 6, 8, 10, 12))

    def test_refusals(self):
        for call in (is_a_chain, is_an_antichain, low_line, high_line):
            for value in NO_LISTS:
                self.fails(BadSet(-1), call, ORDER, value)
            for wrong in (-1, 4, True, False, None, 1.0, "1", (1,), [1]):
                self.fails(BadSet(2), call, ORDER, (0, 1, wrong, wrong))
            self.fails(BadSet(1), call, ORDER, (3, 3))


class LineTest(Case):
    def lot_over(self, order, chosen):
        return {(x, c) for c in chosen for x in range(order.size) if x != c and not order.is_below(x, c)}

    def lot_under(self, order, chosen):
        return {(c, y) for c in chosen for y in range(order.size) if y != c and not order.is_below(c, y)}

    def line(self, order, line, lot):
        self.assertIs(type(line), tuple)
        self.assertTrue(is_line(order, line))
        self.assertLessEqual(lot, turned_by(line))

    def test_all_chains(self):
        for order in small_orders() + some_orders(6, 5, 6) + [bent()]:
            for chosen in chains_in(order):
                self.line(order, self.told(low_line, order, chosen[::-1]), self.lot_over(order, chosen))
                self.line(order, self.told(high_line, order, list(chosen)), self.lot_under(order, chosen))

    def test_sets_that_are_no_chain(self):
        for order in small_orders()[::3] + [bent()]:
            for chosen in sets_of(order):
                unlike = [couple for couple in combinations(chosen, 2) if order.are_open(*couple)]
                if unlike:
                    self.fails(AreOpen(*unlike[0]), low_line, order, chosen[::-1])
                    self.fails(AreOpen(*unlike[0]), high_line, order, chosen)
                    self.fails(AreOpen(*unlike[0]), both_line, order, chosen, None)
                    self.fails(AreOpen(*unlike[0]), both_line, order, (), chosen)

    def test_both(self):
        for order in small_orders()[::7] + some_orders(3, 5, 5) + [Order(4, [(0, 1), (2, 3)]), standard(2)]:
            sets = turned_sets(order)
            for chosen, others in product(chains_in(order), repeat=2):
                lot = self.lot_over(order, chosen) | self.lot_under(order, others)
                if is_turned(lot, sets):
                    self.line(order, self.told(both_line, order, chosen, others[::-1]), lot)
                else:
                    self.gives(None, both_line, order, chosen, others)

    def test_examples(self):
        self.gives((0, 1), low_line, antichain(2), (0,))
        self.gives((1, 0), high_line, antichain(2), [0])
        self.gives((0, 1), both_line, antichain(2), (0,), (1,))
        # One place can't be both lowest and highest beside an open one.
        self.gives(None, both_line, antichain(2), (0,), (0,))
        self.gives((0, 1, 2), both_line, chain(3), (0, 1), (1, 2))
        self.gives((1, 3, 0, 2), low_line, ORDER, (3, 1))
        self.assertEqual(high_line(ORDER, (3,))[-1], 3)

    def test_edges(self):
        for order in (chain(1), chain(16), antichain(16), many_lines(), ORDER):
            for line in (low_line(order, ()), high_line(order, []), both_line(order, (), ())):
                self.assertTrue(is_line(order, line))
            self.line(order, both_line(order, (0,), ()), self.lot_over(order, (0,)))
            self.line(order, both_line(order, (), (0,)), self.lot_under(order, (0,)))
        everything = tuple(range(16))
        self.gives(everything, both_line, chain(16), everything, everything)
        order = many_lines()
        lot = self.lot_over(order, (10, 11, 12)) | self.lot_under(order, (13, 14, 15))
        self.line(order, both_line(order, (10, 11, 12), (13, 14, 15)), lot)
        self.gives(None, both_line, order, (10, 11, 12), (10, 11, 12))
        self.gives(None, both_line, order, (0, 1), (1,))

    def test_refusals_in_their_order(self):
        for value in NO_LISTS:
            self.fails(BadSet(-1), both_line, ORDER, value, None)
            self.fails(BadSet(-1), both_line, ORDER, (0, 2), value)
        for wrong in (-1, 4, True, None, 1.0, "1"):
            self.fails(BadSet(2), both_line, ORDER, (0, 1, wrong), (0, 1))
            self.fails(BadSet(2), both_line, ORDER, (), (0, 1, wrong))
        self.fails(AreOpen(0, 1), both_line, ORDER, (1, 0), (3, 3))
        self.fails(BadSet(1), both_line, ORDER, (0, 2), (3, 3))
        self.fails(AreOpen(0, 1), both_line, ORDER, (1, 3), (3, 1, 0))
        self.fails(AreOpen(0, 3), low_line, ORDER, [3, 0])
        self.fails(AreOpen(2, 3), high_line, ORDER, (2, 1, 3))


if __name__ == "__main__":
    unittest.main()
