"""linemix/evens.py, with [100] to [103] and [105]."""

import unittest
from fractions import Fraction

from linemix.costs import best_mix, full_cost, tight_ones
from linemix.counts import Counts
from linemix.errors import BadLine, BadMix, BadPlace, BadRow
from linemix.evens import clear_line, even_mix, even_place, is_clear, is_even, mate
from linemix.lines import each_line, is_line, lines_of
from linemix.mixes import Mix
from linemix.odds import odd_round
from linemix.orders import Order
from linemix.pairs import open_pairs
from linemix.putting import put_in
from linemix.shapes import antichain, bent, chain, crown, standard
from linemix.swaps import unlike_couples
from linemix.ties import tied
from linemix.wholes import dimension
from tests.plain_support import is_plainly_clear, open_turned, plain_mates, told
from tests.support import (
    NO_LISTS, ORDER, CostCase, five_thousand_lower_sets, many_lines, orders_of, plain_lines, small_orders, some_orders,
)

ORDERS = small_orders()[::2] + some_orders(15, 5, 6) + [standard(3), bent()]


class ClearTest(CostCase):
    def test_clear_lines_and_mates(self):
        # [100]
        for order in ORDERS:
            mates = plain_mates(order)
            for line in list(mates)[::max(1, len(mates) // 40)]:
                clear = self.gives(is_plainly_clear(order, line), is_clear, order, line)
                other = self.gives(mates[line], mate, order, line)
                self.assertEqual(clear, other is not None)
                if clear:
                    self.assertTrue(is_clear(order, other))
                    self.assertEqual(mate(order, other), line)
                    self.assertEqual(mate(~order, line[::-1]), other[::-1])
                    turned = set(open_pairs(order))
                    self.assertEqual(open_turned(order, line) ^ open_turned(order, other), turned)

    def test_first_clear_line(self):
        for order in small_orders() + ORDERS:
            clear = [line for line in plain_lines(order) if is_plainly_clear(order, line)]
            self.gives(clear[0] if clear else None, clear_line, order)

    def test_chains(self):
        for size in (1, 2, 5, 16):
            line = tuple(range(size))
            self.gives(line, mate, chain(size), line)
            self.gives(True, is_clear, chain(size), list(line))
            self.gives(line, clear_line, chain(size))

    def test_sixteen_places(self):
        turned = tuple(range(15, -1, -1))
        self.gives(tuple(range(16)), clear_line, antichain(16))
        self.gives(turned, mate, antichain(16), tuple(range(16)))
        self.gives(None, clear_line, standard(8))
        self.gives(None, clear_line, standard(3) + antichain(10))
        self.gives(None, clear_line, antichain(10) + standard(3))
        self.gives(None, clear_line, crown(8, reach=5))
        order = many_lines()
        line = self.told(clear_line, order)
        self.assertTrue(is_plainly_clear(order, line) and is_line(order, line))
        self.assertTrue(is_line(order, self.told(mate, order, line)))
        for order in (chain(8) + chain(8), chain(4) * chain(4), antichain(8) >> antichain(8), chain(5) * chain(3)):
            first = self.told(clear_line, order)
            self.assertTrue(is_plainly_clear(order, first))
            # It is the first one: no line ahead of it is clear.
            for line in each_line(order):
                if line == first:
                    break
                self.assertFalse(is_clear(order, line))

    def test_example(self):
        order = Order(4, [(0, 2), (1, 2), (1, 3)])
        line = clear_line(order)
        self.assertEqual((line, mate(order, line), even_place(order, 0), even_place(order, 1)),
                         ((0, 1, 2, 3), (1, 3, 0, 2), (2, 1), (3, 2)))

    def test_refusals(self):
        for call in (is_clear, mate):
            for value in NO_LISTS:
                self.fails(BadRow(-1), call, ORDER, value)
            for line, place in (((0, 1, 2), 3), ((0, 1, 2, 4), 3), ((0, 0, 1, 2), 1), ((True, 0, 2, 3), 0), ((), 0)):
                self.fails(BadRow(place), call, ORDER, line)
            self.fails(BadLine(0), call, ORDER, (2, 0, 1, 3))
            self.fails(BadLine(1), call, ORDER, (0, 2, 1, 3))


class EvenMixTest(CostCase):
    def test_even_mixes(self):
        # [101], [102]
        for order in small_orders() + some_orders(15, 5, 6) + [standard(3), bent(), chain(2) * chain(3)]:
            line = clear_line(order)
            mix = self.told(even_mix, order)
            if line is None:
                self.assertIsNone(mix)
                continue
            self.assertEqual(mix, Mix(1, [(line, 1), (mate(order, line), 1)]))
            self.gives(True, is_even, order, mix)
            self.assertEqual(mix.total, (2, 1))
            self.assertTrue(order.is_chain() or mix.pays(Counts.ones(order)))

    def test_what_holds_together(self):
        # [101]
        for order in small_orders()[::2] + some_orders(20, 5, 6) + [standard(3), bent()]:
            if order.is_chain():
                continue
            even = even_mix(order) is not None
            self.assertEqual(even, full_cost(order) == (2, 1))
            if len(tight_ones(order)) <= 12:
                self.assertEqual(even, dimension(order) == 2)
            self.assertEqual(even, clear_line(order) is not None)
            self.assertEqual(even, odd_round(order) is None)
            self.assertEqual(even, is_even(order, best_mix(order, tight_ones(order))))
            self.assertEqual(even, is_even(order, best_mix(order, Counts.ones(order))))

    def test_best_mixes_of_even_orders(self):
        # [102]
        for order in [order for order in ORDERS if not order.is_chain() and clear_line(order) is not None]:
            for tolls in (tight_ones(order), Counts.ones(order)):
                mix = best_mix(order, tolls)
                self.assertEqual(mix.total, (2, 1))
                self.assertTrue(mix.pays(Counts.ones(order)) and mix.pays(tight_ones(order)))
                for line, _ in mix:
                    self.assertTrue(is_plainly_clear(order, line))
                for x in range(order.size):
                    self.assertEqual(even_place(order, x), mean_of(mix, x))
            # A line that is clear is in a best mix, with its mate.
            for line in [line for line in plain_lines(order) if is_plainly_clear(order, line)][:8]:
                both = Mix(1, [(line, 1), (mate(order, line), 1)])
                self.assertTrue(both.pays(Counts.ones(order)))
                for x in range(order.size):
                    self.assertEqual(even_place(order, x), mean_of(both, x))

    def test_is_even_by_its_words(self):
        for order in small_orders()[::3] + some_orders(6, 5, 5):
            lines = lines_of(order, first=30)
            clear = [line for line in lines if is_plainly_clear(order, line)]
            mixes = [Mix(3, [(line, 2 + at) for at, line in enumerate(lines)]), Mix(1, [(line, 2) for line in lines])]
            mixes += [Mix(2, [(line, 3) for line in clear]), Mix(5, [(lines[0], 7)]), Mix(1, ())]
            if clear and mate(order, clear[-1]) is not None:
                mixes += [Mix(3, [(clear[-1], 4), (mate(order, clear[-1]), 4), (clear[0], 1), (mate(order, clear[0]), 1)])]
            for mix in mixes:
                total = Fraction(*mix.total)
                even = total > 0 and all(Fraction(*mix.share(x, y)) == total / 2 for x, y in open_pairs(order))
                self.gives(even, is_even, order, mix)

    def test_edges(self):
        for size in (1, 2, 5, 16):
            line = tuple(range(size))
            self.gives(Mix(1, [(line, 2)]), even_mix, chain(size))
            self.gives(True, is_even, chain(size), Mix(7, [(line, 3)]))
            self.gives(False, is_even, chain(size), Mix(7, ()))
        self.gives(False, is_even, antichain(3), Mix(1, ()))
        big = 10 ** 30
        self.gives(True, is_even, antichain(2), Mix(3, [((0, 1), big), ((1, 0), big)]))
        self.gives(False, is_even, antichain(2), Mix(3, [((0, 1), big), ((1, 0), big + 1)]))
        self.gives(None, even_mix, standard(3))
        self.gives(None, even_mix, bent())

    def test_refusals(self):
        for rows, place in (([((0, 1, 2), 1)], 0), ([((0, 1, 2, 3), 1), ((0, 2, 1, 3), 1)], 1),
                            ([((0, 1, 2, 3), 1), ((1, 0, 2, 3), 1), ((3, 1, 0, 2), 2)], 2)):
            self.fails(BadMix(place), is_even, ORDER, Mix(2, rows))
        self.fails(BadMix(0), is_even, chain(2), Mix(1, [((1, 0), 1)]))


def mean_of(mix, x):
    """The mean place of x, by the words of [102]."""
    total = sum(number for _, number in mix)
    return told(Fraction(sum(number * (line.index(x) + 1) for line, number in mix), total))


class EvenPlaceTest(CostCase):
    def test_by_its_words(self):
        for order in small_orders()[::2] + some_orders(6, 5, 6) + [antichain(16), chain(16), many_lines(), standard(3)]:
            for x in range(order.size):
                below = sum(1 for low, high in order.steps_told() if high == x)
                above = sum(1 for low, high in order.steps_told() if low == x)
                self.gives(told(Fraction(order.size + 1 + below - above, 2)), even_place, order, x)

    def test_refusals(self):
        for wrong in (4, -1, True, False, None, "0"):
            self.fails(BadPlace("x"), even_place, ORDER, wrong)


class EvenOrdersTest(CostCase):
    def is_fine(self, order):
        return clear_line(order) is not None

    def test_sub_orders(self):
        # [103]
        for order in orders_of(4)[::7] + some_orders(6, 5, 6):
            if self.is_fine(order):
                for x in range(order.size):
                    rest = [place for place in range(order.size) if place != x]
                    self.assertTrue(self.is_fine(order.on(rest)))

    def test_put_ins(self):
        parts = [chain(1), chain(2), antichain(2), standard(3), bent()]
        for order in orders_of(2) + orders_of(3)[::4]:
            for shift in range(5):
                chosen = [parts[(shift + 2 * x) % 5] for x in range(order.size)]
                if sum(part.size for part in chosen) <= 16:
                    wanted = self.is_fine(order) and all(self.is_fine(part) for part in chosen)
                    self.assertEqual(self.is_fine(put_in(order, chosen)), wanted)
        for one in (chain(2), antichain(3), standard(3), bent()):
            for other in (chain(1), antichain(2), bent()):
                wanted = self.is_fine(one) and self.is_fine(other)
                self.assertEqual(self.is_fine(one >> other), wanted)
                self.assertEqual(self.is_fine(one + other), wanted)

    def test_products(self):
        for n in range(2, 9):
            for m in range(2, 16 // n + 1):
                order = chain(n) * chain(m)
                self.assertTrue(self.is_fine(order) and not order.is_chain())
                self.assertTrue(is_even(order, even_mix(order)))
        ended = chain(1) >> antichain(2) >> chain(1)
        self.assertFalse(self.is_fine(ended * chain(2)))
        self.assertFalse(self.is_fine(chain(3) * ended))
        self.assertFalse(self.is_fine(chain(2) * chain(2) * chain(2)))

    def test_clear_lines_of_tied_orders(self):
        # [104]: a clear line with u ahead of v is a line behind the tie, clear or not.
        lost = 0
        for order in some_orders(10, 5, 6) + [antichain(4)]:
            for u, v in open_pairs(order):
                made = tied(order, (u, v))
                for line in [line for line in lines_of(order, first=30) if is_clear(order, line)]:
                    if line.index(u) < line.index(v):
                        self.assertTrue(is_line(made, line))
                        lost += not is_clear(made, line)
        self.assertGreater(lost, 0)


class FarthestTest(CostCase):
    def test_farthest_lines(self):
        # [105]
        for order in small_orders()[::4] + some_orders(6, 5, 5):
            lines = plain_lines(order)
            couples = len(open_pairs(order)) // 2
            for one in lines[::max(1, len(lines) // 12)]:
                for other in lines:
                    far = unlike_couples(one, other)
                    self.assertLessEqual(far, couples)
                    self.assertEqual(far == couples, mate(order, one) == other and mate(order, other) == one)
            if len(lines) <= 24:
                reached = any(unlike_couples(one, other) == couples for one in lines for other in lines)
                self.assertEqual(reached, clear_line(order) is not None)

    def test_many_lines(self):
        for order in (five_thousand_lower_sets(), many_lines()):
            line = clear_line(order)
            if line is not None:
                self.assertEqual(unlike_couples(line, mate(order, line)), len(open_pairs(order)) // 2)


if __name__ == "__main__":
    unittest.main()
