"""linemix/products.py, with [68] to [70]."""

import random
import unittest

from linemix.costs import best_mix, best_paper, cost, full_cost
from linemix.counts import Counts
from linemix.errors import BadLine, BadMix, BadNumber, BadRow, NoEnds, TooMany, Unfit
from linemix.filling import filled_in
from linemix.leading import tight_pairs
from linemix.lines import is_line, lines_of
from linemix.mixes import Mix
from linemix.numbers import add_up, is_at_most
from linemix.orders import Order
from linemix.pairs import all_pairs, open_pairs
from linemix.papers import Paper
from linemix.products import (
    end_counts, end_sort, ends_of, first_line, multiplied, product_mix, second_line, with_ends,
)
from linemix.shapes import antichain, bent, chain, stacked, standard
from linemix.wholes import dimension, whole_cost
from linemix.worths import worth
from tests.support import NO_LISTS, ORDER, CostCase, few_counts, orders_of, small_orders, some_orders

SMALL = [chain(2), chain(3), chain(4), stacked([1, 2, 1]), stacked([1, 2, 2, 1]), stacked([1, 3, 1])]
SMALL = SMALL + [Order(4, [(2, 0), (2, 1), (2, 3), (0, 3), (1, 3)]), Order(2, [(1, 0)]), chain(2) * chain(2)]
COUPLES = [(one, other) for one in SMALL for other in SMALL if one.size * other.size <= 16]
PLAIN = [(one, other) for one in orders_of(2) + orders_of(3)[::4] + [chain(1)] for other in orders_of(2) + orders_of(3)[::5]]


class MultipliedTest(CostCase):
    def test_products(self):
        self.assertEqual(self.told(multiplied), chain(1))
        for one, other in PLAIN:
            self.assertEqual(self.told(multiplied, one), one)
            self.assertEqual(self.told(multiplied, one, other), one * other)
        self.assertEqual(multiplied(chain(2), antichain(2), chain(3)), (chain(2) * antichain(2)) * chain(3))
        self.assertEqual(multiplied(*[chain(2)] * 4).size, 16)
        self.assertEqual(multiplied(*[chain(1)] * 40), chain(1))

    def test_size(self):
        for orders in ((chain(4), chain(5)), (chain(2),) * 5, (chain(16), chain(1), chain(2)), (antichain(3),) * 3):
            self.fails(BadNumber("size"), multiplied, *orders)

    def test_upside_down(self):
        for one, other in PLAIN + COUPLES:
            self.assertEqual(~(one * other), ~one * ~other)


class EndsTest(CostCase):
    def test_ends_of(self):
        for order in small_orders() + [chain(16), standard(8), bent(), stacked([1, 14, 1])]:
            if order.ends() is None:
                self.fails(NoEnds(), ends_of, order)
            else:
                self.gives(order.ends(), ends_of, order)
        self.fails(NoEnds(), ends_of, chain(1))

    def test_with_ends(self):
        for order in small_orders() + some_orders(10, 5, 6) + [antichain(14), chain(14)]:
            made = self.told(with_ends, order)
            size = order.size
            self.assertEqual(made.size, size + 2)
            self.assertEqual(made.ends(), (0, size + 1))
            self.assertEqual(made.on(tuple(range(1, size + 1))), order)
            if 2 <= size and len(tight_pairs(order)) <= 12:
                self.assertEqual(full_cost(made), full_cost(order))
                self.assertEqual(dimension(made), dimension(order))
        self.fails(TooMany(16), with_ends, antichain(15))
        self.fails(TooMany(16), with_ends, chain(16))
        self.assertEqual(with_ends(chain(1)), chain(3))


class EndCountsTest(CostCase):
    def test_example(self):
        made = end_counts(chain(2), chain(3), Counts([(1, 0, 3)]), Counts([(1, 0, 4)]))
        grid = chain(2) * chain(3)
        self.assertEqual([list(made), cost(grid, made), worth(grid, made)], [[(1, 3, 4), (3, 2, 3)], (7, 1), 4])

    def test_by_their_words(self):
        for one, other in COUPLES:
            low, high = one.ends()
            its_low, its_high = other.ends()
            many = other.size
            tolls, others = Counts.ones(one) * 2, Counts([(u, v, u + v + 1) for u, v in all_pairs(other)])
            made = self.told(end_counts, one, other, tolls, others)
            first = {(x * many + its_low, y * many + its_high): tolls[x, y] for x, y in all_pairs(one)}
            second = {(low * many + u, high * many + v): others[u, v] for u, v in all_pairs(other)}
            self.assertFalse(set(first) & set(second))
            self.assertLessEqual(set(first) | set(second), set(open_pairs(one * other)))
            wanted = {**first, **second}
            self.assertEqual(list(made), [(a, b, wanted[a, b]) for a, b in sorted(wanted)])

    def test_costs_and_worths(self):
        # [69]
        for one, other in COUPLES:
            made = one * other
            for tolls, others in zip(few_counts(one, 2, 3, 4), few_counts(other, 2, 4, 3)):
                ends = end_counts(one, other, tolls, others)
                self.shown(made, ends, add_up(cost(one, tolls), cost(other, others)))
                self.assertEqual(worth(made, ends), max(worth(one, tolls), worth(other, others)))
                if len(ends) <= 12 and ends.total_count() <= 24:
                    self.assertEqual(whole_cost(made, ends), whole_cost(one, tolls) + whole_cost(other, others))
                self.best_ones(one, other, tolls, others)

    def best_ones(self, one, other, tolls, others):
        made, ends = one * other, end_counts(one, other, tolls, others)
        sorts = {"first": (0, 1), "second": (0, 1)}
        mix = best_mix(made, ends)
        for line, number in mix:
            sort = end_sort(one, other, line)
            sorts[sort] = add_up(sorts[sort], (number, mix.bottom))
        self.assertEqual(sorts, {"first": cost(one, tolls), "second": cost(other, others)})
        paper, its_paper = best_paper(one, tolls), best_paper(other, others)
        bottom = paper.bottom * its_paper.bottom
        both = end_counts(one, other, paper.counts * its_paper.bottom, its_paper.counts * paper.bottom)
        self.assertTrue(Paper(bottom, both).holds_in_order(made))
        self.assertEqual(Paper(bottom, both).value_at(ends), cost(made, ends))
        best = best_paper(made, ends)
        many = other.size
        low, high = one.ends()
        its_low, its_high = other.ends()
        first = Paper(best.bottom, Counts([(x, y, best.counts[x * many + its_low, y * many + its_high])
                                           for x, y in all_pairs(one)]))
        second = Paper(best.bottom, Counts([(u, v, best.counts[low * many + u, high * many + v])
                                            for u, v in all_pairs(other)]))
        self.assertTrue(first.holds_in_order(one) and second.holds_in_order(other))
        self.assertEqual(first.value_at(tolls), cost(one, tolls))
        self.assertEqual(second.value_at(others), cost(other, others))

    def test_end_sorts(self):
        for one, other in COUPLES[::3]:
            made = one * other
            low, high = one.ends()
            its_low, its_high = other.ends()
            many = other.size
            firsts = {(x * many + its_low, y * many + its_high) for x, y in all_pairs(one)}
            seconds = {(low * many + u, high * many + v) for u, v in all_pairs(other)}
            for line in lines_of(made, first=60):
                sort = self.told(end_sort, one, other, line)
                turned = {(line[b], line[a]) for a in range(made.size) for b in range(a + 1, made.size)}
                self.assertEqual(bool(turned & firsts), sort == "first")
                self.assertEqual(bool(turned & seconds), sort == "second")
            self.gives("first", end_sort, one, other, first_line(one, other, lines_of(one)[0], lines_of(other)[0]))
            self.gives("second", end_sort, one, other, second_line(one, other, lines_of(one)[0], lines_of(other)[0]))


class ProductLinesTest(CostCase):
    def test_one_place(self):
        self.gives((0,), first_line, chain(1), chain(1), (0,), (0,))
        self.gives((0, 1), second_line, chain(1), chain(2), [0], [0, 1])

    def test_by_their_words(self):
        for one, other in PLAIN + COUPLES[::5]:
            for line in lines_of(one, first=3):
                for beside in lines_of(other, first=3):
                    spots = [(x, u) for x in range(one.size) for u in range(other.size)]
                    wanted = sorted(spots, key=lambda spot: (line.index(spot[0]), beside.index(spot[1])))
                    first = self.gives(tuple(x * other.size + u for x, u in wanted), first_line, one, other, line, beside)
                    wanted = sorted(spots, key=lambda spot: (beside.index(spot[1]), line.index(spot[0])))
                    second = self.gives(tuple(x * other.size + u for x, u in wanted), second_line, one, other,
                                        list(line), list(beside))
                    self.assertTrue(is_line(one * other, first) and is_line(one * other, second))


class ProductMixTest(CostCase):
    def test_from_above(self):
        # [68]
        for one, other in PLAIN + COUPLES[::4]:
            made = one * other
            many = other.size
            for tolls, others in zip(few_counts(one, 2, 4, 4), few_counts(other, 2, 4, 3)):
                mix, mixes = best_mix(one, tolls), best_mix(other, others)
                both = self.told(product_mix, one, other, mix, mixes)
                self.assertEqual(both.total, add_up(mix.total, mixes.total))
                most = Counts([(a, b, tolls[a // many, b // many] + others[a % many, b % many])
                               for a, b in all_pairs(made)])
                self.lines_pay(made, both, most)
                chosen = random.Random(f"{list(most)}").sample(list(most), min(len(most), 30))
                self.assertTrue(is_at_most(cost(made, Counts(chosen)), add_up(cost(one, tolls), cost(other, others))))

    def test_no_lines(self):
        empty = Mix(3, [])
        both = self.told(product_mix, chain(2), chain(3), empty, Mix(2, ()))
        self.assertEqual((list(both), both.total), ([], (0, 1)))
        both = product_mix(chain(2), chain(3), empty, Mix(2, [((0, 1, 2), 1)]))
        self.assertEqual((list(both), both.bottom), ([((0, 3, 1, 4, 2, 5), 3)], 6))

    def test_tolls_at_one_place_of_the_other(self):
        for one, other in PLAIN[::3] + COUPLES[::7]:
            for tolls in few_counts(one, 1, 4, 4):
                for u in range(other.size):
                    moved = Counts([(x * other.size + u, y * other.size + u, toll) for x, y, toll in tolls])
                    self.assertEqual(cost(one * other, moved), cost(one, tolls))

    def test_full_costs(self):
        for one, other in PLAIN + COUPLES:
            made = one * other
            if max(len(tight_pairs(told)) for told in (one, other, made)) > 30:
                continue
            total = add_up(full_cost(one), full_cost(other))
            self.assertTrue(is_at_most(full_cost(made), total))
            if one.ends() and other.ends():
                # [70]
                self.assertIsNotNone(made.ends())
                self.assertEqual(full_cost(made), total)
                if max(len(tight_pairs(told)) for told in (one, other, made)) <= 12:
                    self.assertEqual(dimension(made), dimension(one) + dimension(other))

    def test_chains_multiplied(self):
        for sizes in ((2,), (5,), (2, 3), (4, 4), (2, 2, 2), (2, 2, 4), (2, 2, 2, 2), (16,), (8, 2)):
            made = multiplied(*[chain(size) for size in sizes])
            self.gives((len(sizes), 1), full_cost, made)
            self.gives(len(sizes), dimension, made)

    def test_filled_in_and_with_ends(self):
        for one, other in ((antichain(2), antichain(2)), (chain(2), antichain(2)), (chain(2), bent())):
            for fill in (filled_in, with_ends):
                try:
                    made = fill(one) * fill(other)
                except BadNumber:
                    continue
                if len(tight_pairs(made)) <= 30:
                    self.assertEqual(full_cost(made), add_up(full_cost(one), full_cost(other)))
        self.assertEqual(full_cost(with_ends(antichain(2)) * filled_in(antichain(2))), (4, 1))


class RefusalsTest(CostCase):
    def test_ends_and_size_come_first(self):
        open_ended = antichain(2)
        for call, args in ((end_counts, (None, None)), (end_sort, (None,))):
            self.fails(NoEnds(), call, open_ended, chain(16), *args)
            self.fails(NoEnds(), call, chain(16), open_ended, *args)
            self.fails(NoEnds(), call, chain(1), chain(2), *args)
            self.fails(NoEnds(), call, chain(2), chain(1), *args)
            self.fails(BadNumber("size"), call, chain(4), chain(5), *args)
        for call, args in ((first_line, (None, None)), (second_line, (None, None)), (product_mix, (None, None))):
            self.fails(BadNumber("size"), call, antichain(4), antichain(5), *args)
            self.fails(BadNumber("size"), call, chain(16), antichain(2), *args)

    def test_end_counts(self):
        unfit = Counts([(0, 1, 1)])
        self.fails(Unfit(0, 1), end_counts, chain(2), chain(3), unfit, Counts([(0, 2, 1)]))
        self.fails(Unfit(0, 2), end_counts, chain(2), chain(3), Counts([(1, 0, 1)]), Counts([(0, 2, 1)]))
        self.assertEqual(list(end_counts(chain(4), chain(4), Counts(), Counts())), [])

    def test_lines(self):
        for call in (first_line, second_line):
            for value in NO_LISTS:
                self.fails(BadRow(-1), call, ORDER, chain(3), value, None)
                self.fails(BadRow(-1), call, ORDER, chain(3), (0, 1, 2, 3), value)
            self.fails(BadRow(1), call, ORDER, chain(3), (0, 0, 1, 2), None)
            self.fails(BadRow(3), call, ORDER, chain(3), (0, 1, 2), None)
            self.fails(BadLine(0), call, ORDER, chain(3), (2, 1, 0, 3), (2, 1, 0))
            self.fails(BadRow(2), call, ORDER, chain(3), (0, 1, 2, 3), (0, 1))
            self.fails(BadLine(1), call, ORDER, chain(3), (0, 1, 2, 3), (0, 2, 1))
        self.fails(BadRow(-1), end_sort, chain(2), chain(2), None)
        self.fails(BadRow(2), end_sort, chain(2), chain(2), (0, 1))
        self.fails(BadRow(1), end_sort, chain(2), chain(2), (0, True, 2, 3))
        self.fails(BadLine(0), end_sort, chain(2), chain(2), (1, 0, 2, 3))

    def test_mixes(self):
        right, wrong = Mix(1, [((0, 1), 1)]), Mix(1, [((1, 0), 1)])
        for first, second, place in ((wrong, right, 0), (wrong, wrong, 0), (right, wrong, 1), (Mix(1, ()), wrong, 1),
                                     (Mix(1, [((0, 1, 2), 1)]), right, 0), (right, Mix(1, [((0,), 1)]), 1)):
            self.fails(BadMix(place), product_mix, chain(2), chain(2), first, second)


if __name__ == "__main__":
    unittest.main()
