"""linemix/games.py, with [42]."""

import unittest

from linemix.costs import cost
from linemix.counts import Counts
from linemix.errors import NoPairs, TooMany, Unfit
from linemix.games import game_value, line_side, pair_side
from linemix.mixes import Mix
from linemix.numbers import is_at_most, lowest, scaled
from linemix.pairs import all_pairs
from linemix.papers import Paper
from linemix.shapes import antichain, bent, chain, standard
from linemix.worths import worth
from tests.support import (
    ORDER, CostCase, few_counts, five_thousand_lower_sets, many_lines, plain_lines, small_orders, some_orders,
)

CALLS = (game_value, line_side, pair_side)


class GamesTest(CostCase):
    def played(self, order, tolls):
        top, bottom = cost(order, tolls)
        value = self.told(game_value, order, tolls)
        self.fraction(value)
        self.assertEqual(value, (bottom, top))
        mix = self.told(line_side, order, tolls)
        self.assertIs(type(mix), Mix)
        self.assertEqual(mix.total, (1, 1))
        self.assertTrue(mix.holds_in(order))
        for x, y, toll in tolls:
            self.assertTrue(is_at_most(scaled(value, toll), mix.share(x, y)))
        # Some tolled pair has no more, in every mix of total 1.
        self.assertTrue(any(mix.share(x, y) == scaled(value, toll) for x, y, toll in tolls))
        paper = self.told(pair_side, order, tolls)
        self.assertIs(type(paper), Paper)
        self.assertEqual(paper.value_at(tolls), (1, 1))
        self.assertEqual(lowest(worth(order, paper.counts), paper.bottom), value)
        for x, y, number in paper:
            self.assertTrue(number >= 1 and (x, y) in tolls)

    def test_small_orders(self):
        for order in small_orders()[1::2] + some_orders(10, 5, 6) + [bent(), standard(3)]:
            for tolls in few_counts(order, 2, 4, 5) + few_counts(order, 1, 9, 2):
                self.played(order, tolls)

    def test_many_lines(self):
        for order in (many_lines(), five_thousand_lower_sets(), antichain(12)):
            for tolls in few_counts(order, 1, 30, 10 ** 28) + few_counts(order, 1, 8, 2):
                self.played(order, tolls)

    def test_one_toll_alone(self):
        self.gives((1, 7), game_value, chain(2), Counts([(1, 0, 7)]))
        self.played(chain(2), Counts([(1, 0, 7)]))
        self.gives((2, 3), game_value, antichain(3), Counts([(1, 0, 1), (2, 1, 1), (0, 2, 1)]))

    def test_other_mixes_and_papers(self):
        for order in small_orders()[1::6]:
            lines = plain_lines(order)
            for tolls in few_counts(order, 2, 3, 4):
                value = game_value(order, tolls)
                mix = Mix(len(lines), [(line, 1) for line in lines])
                self.assertTrue(any(is_at_most(mix.share(x, y), scaled(value, toll)) for x, y, toll in tolls))
                paper = Paper(tolls.product_sum(tolls), tolls)
                self.assertEqual(paper.value_at(tolls), (1, 1))
                self.assertTrue(is_at_most(value, lowest(worth(order, tolls), paper.bottom)))

    def test_refusals(self):
        for call in CALLS:
            self.fails(Unfit(0, 2), call, ORDER, Counts([(0, 2, 1)]))
            for order in (ORDER, chain(1), antichain(16)):
                self.fails(NoPairs(), call, order, Counts())
                self.fails(NoPairs(), call, order, Counts([(0, 1, 0), (99, 99, 0)]))
            self.fails(TooMany(5000), call, antichain(13), Counts([(0, 1, 1)]))
            self.fails(TooMany(30), call, antichain(16), Counts.at(all_pairs(antichain(16))[:31]))


if __name__ == "__main__":
    unittest.main()
