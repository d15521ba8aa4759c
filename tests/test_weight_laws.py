"""What holds of worths, mixes and papers: [33] to [36] and [38], as far as they need no cost."""

import unittest
from itertools import product

from linemix.counts import Counts, kept_on
from linemix.lines import lines_of
from linemix.lots import most_at_once
from linemix.mixes import Mix
from linemix.numbers import add_up, is_at_most
from linemix.pairs import all_pairs, open_pairs
from linemix.papers import Paper
from linemix.shapes import antichain, bent, standard
from linemix.ties import tied
from linemix.worths import richest, worth
from tests.support import Case, earned_by, many_lines, small_orders, some_counts, some_orders, turned_by

ORDERS = small_orders() + some_orders(5, 5, 6) + [bent(), standard(3)]


def some_mixes(order):
    """Mixes of lines of the order, the same on every run."""
    lines = lines_of(order, first=40)
    return [
        Mix(1, [(line, 1) for line in lines]),
        Mix(3, [(line, 1 + at) for at, line in enumerate(lines[::2])]),
        Mix(2, [(lines[0], 1), (lines[-1], 3)]),
        Mix(4, []),
    ]


def paid_by(mix, order):
    """Counts that the mix pays, as great as may be."""
    shares = {pair: mix.share(*pair) for pair in all_pairs(order)}
    return Counts([(x, y, top // bottom) for (x, y), (top, bottom) in shares.items()])


def half_of(one, other):
    """The mix of half of each of two mixes."""
    both = one + other
    return Mix(2 * both.bottom, list(both))


class WorthTest(Case):
    """[34] and [36] of the worth."""

    def test_richest_line(self):
        for order in ORDERS:
            for counts in some_counts(order, 2, 5):
                self.assertEqual(worth(order, counts), max(earned_by(line, counts) for line in lines_of(order)))
                self.assertEqual(earned_by(richest(order, counts), counts), worth(order, counts))

    def test_factors(self):
        for order in ORDERS[::3]:
            for counts, factor in product(some_counts(order, 2, 5), (0, 1, 2, 10 ** 30)):
                self.assertEqual(worth(order, counts * factor), factor * worth(order, counts))

    def test_sums(self):
        for order in ORDERS[::3]:
            for one, other in product(some_counts(order, 3, 5), repeat=2):
                self.assertLessEqual(worth(order, one + other), worth(order, one) + worth(order, other))
                # Neither falls if a count grows.
                self.assertGreaterEqual(worth(order, one + other), worth(order, one))

    def test_ends(self):
        for order in ORDERS:
            for counts in some_counts(order, 2, 5):
                self.assertGreaterEqual(worth(order, counts), counts.greatest_count())
                self.assertLessEqual(worth(order, counts), counts.total_count())

    def test_ones(self):
        for order in small_orders():
            for lot in (all_pairs(order), open_pairs(order)[::2], open_pairs(order)[::3]):
                self.assertEqual(worth(order, Counts.at(lot)), most_at_once(order, lot))

    def test_upside_down_and_sub_orders(self):
        for order in ORDERS[::2]:
            for counts in some_counts(order, 2, 4):
                other = Counts([(y, x, number) for x, y, number in counts])
                self.assertEqual(worth(~order, other), worth(order, counts))
                self.assertEqual(worth(order + antichain(2), counts), worth(order, counts))


class TiedTest(Case):
    """[38] of worths and papers."""

    def test_each_open_couple(self):
        for order in small_orders() + some_orders(4, 5, 6):
            for x, y in open_pairs(order):
                one, other = tied(order, (x, y)), tied(order, (y, x))
                for counts in some_counts(order, 2, 3):
                    self.couple(order, one, other, counts)

    def couple(self, order, one, other, counts):
        kept, left = kept_on(one, counts), kept_on(other, counts)
        self.assertEqual(worth(order, counts), max(worth(one, kept), worth(other, left)))
        for bottom in (1, 2, 4):
            holds = Paper(bottom, counts).holds_in_order(order)
            both = (Paper(bottom, kept).holds_in_order(one), Paper(bottom, left).holds_in_order(other))
            self.assertEqual(holds, all(both))

    def test_many_lines(self):
        order = many_lines()
        counts = some_counts(order, 1, 9)[0]
        for x, y in ((0, 15), (12, 3)):
            self.couple(order, tied(order, (x, y)), tied(order, (y, x)), counts)


class MixesTest(Case):
    """[32] and [36] of mixes."""

    def test_sums_pay_sums(self):
        for order in ORDERS[::4]:
            for one, other in product(some_mixes(order), repeat=2):
                both = one + other
                self.assertEqual(both.total, add_up(one.total, other.total))
                self.assertTrue(both.holds_in(order))
                self.assertTrue(both.pays(paid_by(one, order) + paid_by(other, order)))
                for x, y in all_pairs(order):
                    self.assertEqual(both.share(x, y), add_up(one.share(x, y), other.share(x, y)))

    def test_halves(self):
        for order in ORDERS[::4]:
            for one, other in product(some_mixes(order), repeat=2):
                half = half_of(one, other)
                first, second = paid_by(one, order), paid_by(other, order)
                least = Counts([(x, y, min(first[x, y], second[x, y])) for x, y in all_pairs(order)])
                self.assertTrue(one.pays(least) and other.pays(least))
                self.assertTrue(half.pays(least))

    def test_shares(self):
        for order in ORDERS[::4]:
            for mix in some_mixes(order):
                for x, y in all_pairs(order):
                    weight = sum(number for line, number in mix if (x, y) in turned_by(line))
                    top, bottom = mix.share(x, y)
                    self.assertEqual(top * mix.bottom, weight * bottom)
                    self.assertTrue(is_at_most(mix.share(x, y), mix.total))
                self.assertTrue(mix.pays(paid_by(mix, order)))
                for x, y in all_pairs(order):
                    paid = paid_by(mix, order)
                    self.assertFalse(mix.pays(paid.with_count(x, y, paid[x, y] + 1)))


class PapersTest(Case):
    """[33] and [36] of papers."""

    def test_papers_hold_by_their_worth(self):
        for order in ORDERS[::2]:
            for counts in some_counts(order, 3, 4):
                number = worth(order, counts)
                for bottom in range(max(number - 1, 1), number + 2):
                    self.assertEqual(Paper(bottom, counts).holds_in_order(order), number <= bottom)

    def test_halves_hold(self):
        for order in ORDERS[::3]:
            for one, other in product(some_counts(order, 3, 4), repeat=2):
                bottom = max(worth(order, one), worth(order, other), 1)
                half = Paper(2 * bottom, one + other)
                self.assertTrue(Paper(bottom, one).holds_in_order(order) and Paper(bottom, other).holds_in_order(order))
                self.assertTrue(half.holds_in_order(order))
                for tolls in some_counts(order, 2, 3):
                    twice = add_up(Paper(bottom, one).value_at(tolls), Paper(bottom, other).value_at(tolls))
                    self.assertEqual(add_up(half.value_at(tolls), half.value_at(tolls)), twice)

    def test_what_is_paid_is_worth_no_more_than_the_total(self):
        for order in ORDERS[::3]:
            for mix, counts in product(some_mixes(order), some_counts(order, 2, 4)):
                paper = Paper(max(worth(order, counts), 1), counts)
                self.assertTrue(is_at_most(paper.value_at(paid_by(mix, order)), mix.total))


if __name__ == "__main__":
    unittest.main()
