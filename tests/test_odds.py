"""linemix/odds.py, with [98], [101] and [104]."""

import unittest
from fractions import Fraction

from linemix.costs import full_cost
from linemix.errors import NoPairs
from linemix.evens import clear_line
from linemix.leading import tight_pairs
from linemix.lots import most_against
from linemix.numbers import is_at_most
from linemix.odds import odd_bound, odd_round
from linemix.pairs import against
from linemix.shapes import antichain, bent, chain, crown, standard
from linemix.ties import single_ties, tied
from tests.plain_support import plain_against, shortest_odd, told
from tests.support import CostCase, many_lines, small_orders, some_orders

ORDERS = small_orders()[::2] + some_orders(30, 5, 7) + [standard(3), bent(), ~bent(), crown(4, reach=1)]
WIDE = [standard(8), crown(5, reach=2), crown(6, reach=2), crown(7, reach=3), crown(8, reach=5), antichain(16),
        standard(3) + chain(4), bent() >> antichain(4), many_lines()]


class OddRoundTest(CostCase):
    def odd(self, order):
        tight = tight_pairs(order)
        answer = self.told(odd_round, order)
        least = shortest_odd(tight, lambda pair, other: plain_against(order, pair, other))
        if least is None:
            self.assertIsNone(answer)
            return None
        self.assertIs(type(answer), tuple)
        self.assertEqual(len(answer), least)
        self.assertTrue(least >= 3 and len(set(answer)) == least and set(answer) <= set(tight))
        for pair, other in zip(answer, answer[1:] + answer[:1]):
            self.assertIs(type(pair), tuple)
            self.assertTrue(against(order, pair, other))
        return least

    def test_shortest_rounds(self):
        seen = {self.odd(order) for order in ORDERS + WIDE}
        self.assertLessEqual({None, 3, 5, 9}, seen)

    def test_bounds(self):
        # [104]
        for order in ORDERS + [standard(4), crown(5, reach=2), crown(6, reach=1)]:
            if order.is_chain():
                continue
            least = odd_round(order)
            wanted = Fraction(2) if least is None else 2 + Fraction(2, len(least) - 1)
            bound = self.gives(told(wanted), odd_bound, order)
            value = full_cost(order)
            self.assertTrue(is_at_most(bound, value))
            if len(tight_pairs(order)) <= 12:
                self.assertTrue(is_at_most((len(most_against(order)), 1), value))
            self.assertEqual(value == (2, 1), least is None)

    def test_by_hand(self):
        self.assertEqual((len(odd_round(bent())), odd_bound(bent())), (5, (5, 2)))
        self.assertEqual(full_cost(bent()), (5, 2))
        self.gives((3, 1), odd_bound, standard(3))
        self.gives((2, 1), odd_bound, standard(2))
        self.gives((2, 1), odd_bound, antichain(16))
        self.gives((9, 4), odd_bound, crown(8, reach=5))
        self.gives(None, odd_round, chain(16))
        self.gives(None, odd_round, chain(1))

    def test_ties_of_even_orders(self):
        # [104]
        for order in small_orders()[::5] + some_orders(12, 5, 6):
            if clear_line(order) is not None:
                for tie in single_ties(order):
                    self.assertTrue(is_at_most(full_cost(tied(order, tie)), (3, 1)))

    def test_refusals(self):
        for size in (1, 2, 16):
            self.fails(NoPairs(), odd_bound, chain(size))


if __name__ == "__main__":
    unittest.main()
