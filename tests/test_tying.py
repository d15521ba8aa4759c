"""linemix/tying.py, with [84] to [87]."""

import random
import unittest

from linemix.costs import best_mix, cost, full_cost
from linemix.counts import Counts, kept_on
from linemix.errors import BadLine, BadMix, BadPlace, BadRow, NotOpen, TooMany, Unfit
from linemix.leading import tight_pairs
from linemix.lines import is_line, lines_of
from linemix.mixes import Mix
from linemix.numbers import add_up, is_at_most, scaled
from linemix.orders import Order
from linemix.pairs import all_pairs, open_pairs
from linemix.shapes import antichain, bent, chain, crown, standard
from linemix.ties import single_ties, tied, untied
from linemix.tying import both_ties, tie_ends, tie_lines, tie_mix, untied_bound
from linemix.worths import worth
from tests.support import (
    NO_LISTS, ORDER, CostCase, few_counts, five_thousand_lower_sets, many_lines, orders_of, small_orders, some_counts,
    some_orders, turned_by,
)

BIG = 10 ** 30
ORDERS = [order for order in small_orders()[::4] if not order.is_chain()] + some_orders(8, 5, 6) + [bent(), standard(3)]


def some_tolls(order):
    return few_counts(order, 2, 4, 4) + few_counts(order, 1, 9, 2) + [Counts()]


class TieLinesTest(CostCase):
    def test_by_their_words(self):
        for order in ORDERS:
            for u, v in open_pairs(order)[::2]:
                made = tied(order, (u, v))
                pairs = set(all_pairs(made))
                for line in lines_of(order, first=40)[::3]:
                    told = self.told(tie_lines, order, u, v, line)
                    self.assertIs(type(told), tuple)
                    first, second = told
                    self.assertTrue(is_line(made, first) and is_line(made, second))
                    self.same_kind(first, line)
                    turned = turned_by(line) & pairs
                    self.assertLessEqual(turned, turned_by(first) | turned_by(second))
                    if line.index(v) > line.index(u):
                        self.assertEqual(told, (line, line))

    def test_sixteen_places(self):
        for order in (many_lines(), antichain(16), standard(8)):
            for line in lines_of(order, first=3):
                for u, v in open_pairs(order)[::17]:
                    first, second = self.told(tie_lines, order, u, v, list(line))
                    made = tied(order, (u, v))
                    self.assertTrue(is_line(made, first) and is_line(made, second))
                    self.assertLessEqual(turned_by(line) & set(all_pairs(made)), turned_by(first) | turned_by(second))

    def test_by_hand(self):
        self.gives(((0, 1), (0, 1)), tie_lines, antichain(2), 0, 1, (1, 0))
        self.gives(((0, 1), (0, 1)), tie_lines, antichain(2), 0, 1, [0, 1])
        self.assertEqual(set(tie_lines(antichain(3), 2, 0, (0, 1, 2))), {(1, 2, 0), (2, 0, 1)})

    def test_refusals(self):
        self.fails(BadPlace("u"), tie_lines, ORDER, 4, 4, None)
        self.fails(BadPlace("v"), tie_lines, ORDER, 0, 4, None)
        self.fails(NotOpen(0, 2), tie_lines, ORDER, 0, 2, None)
        for value in NO_LISTS:
            self.fails(BadRow(-1), tie_lines, ORDER, 0, 1, value)
        for line, place in (((0, 1, 2), 3), ((0, 1, 2, 4), 3), ((0, 0, 1, 2), 1)):
            self.fails(BadRow(place), tie_lines, ORDER, 0, 1, line)
        self.fails(BadLine(0), tie_lines, ORDER, 0, 1, (2, 0, 1, 3))


class TieMixTest(CostCase):
    def test_by_its_words(self):
        dice = random.Random("tie mixes")
        for order in ORDERS:
            for u, v in open_pairs(order)[::2]:
                made = tied(order, (u, v))
                for tolls in some_tolls(made):
                    self.mixed(order, made, u, v, best_mix(order, tolls), tolls)
                lines = lines_of(order, first=12)
                rows = [(dice.choice(lines), dice.randint(1, 9)) for _ in range(dice.randint(0, 5))]
                self.mixed(order, made, u, v, Mix(dice.randint(1, 3), rows), Counts())

    def mixed(self, order, made, u, v, mix, tolls):
        told = self.told(tie_mix, order, u, v, mix)
        self.assertEqual(told.bottom, mix.bottom)
        rows = []
        for line, number in mix:
            both = tie_lines(order, u, v, line)
            rows += [(line, number)] if line.index(v) > line.index(u) else [(both[0], number), (both[1], number)]
        self.assertEqual(told, Mix(mix.bottom, rows))
        top, bottom = mix.share(v, u) if len(mix) else (0, 1)
        self.assertEqual(told.total, add_up(scaled(mix.total, 2), (-top, bottom)))
        self.lines_pay(made, told, tolls)

    def test_refusals(self):
        right = Mix(1, [((0, 1, 2, 3), 1)])
        self.fails(BadPlace("u"), tie_mix, ORDER, True, 4, right)
        self.fails(BadPlace("v"), tie_mix, ORDER, 0, None, right)
        self.fails(NotOpen(1, 3), tie_mix, ORDER, 1, 3, right)
        for rows, place in (([((0, 1, 2), 1)], 0), ([((0, 1, 2, 3), 1), ((0, 2, 1, 3), 1)], 1),
                            ([((0, 1, 2, 3), 1), ((1, 0, 2, 3), 1), ((3, 1, 0, 2), 2)], 2)):
            self.fails(BadMix(place), tie_mix, ORDER, 0, 1, Mix(2, rows))
        self.assertEqual(list(tie_mix(ORDER, 0, 1, Mix(4, ()))), [])


class TieEndsTest(CostCase):
    def test_example(self):
        tolls = Counts([(0, 1, 1), (1, 2, 1)])
        self.assertEqual([tie_ends(antichain(3), tolls, 0, 2), both_ties(antichain(3), tolls, 0, 2)],
                         [((1, 1), (2, 1), (2, 1)), ((1, 1), (2, 1), (1, 1))])

    def test_ends(self):
        for order in ORDERS:
            for u, v in open_pairs(order)[::2]:
                for tolls in some_tolls(order):
                    self.ended(order, tolls, u, v)

    def ended(self, order, tolls, u, v):
        made = tied(order, (u, v))
        kept = kept_on(made, tolls)
        first, second, third = self.told(tie_ends, order, tolls, u, v)
        self.assertEqual(first, cost(order, kept))
        self.assertEqual(second, cost(made, kept))
        self.assertTrue(is_at_most(first, second) and is_at_most(second, third))
        self.fraction(third)
        share = add_up(scaled(first, 2), (-third[0], third[1]))
        self.greatest(order, kept, (v, u), share, first)

    def greatest(self, order, kept, pair, share, value):
        """No best mix has a greater share, since more costs more; and some best mix has this one."""
        top, bottom = share
        self.assertTrue(is_at_most((kept[pair], 1), share) and is_at_most(share, value))
        just = (kept * bottom).with_count(*pair, top)
        self.assertEqual(cost(order, just), scaled(value, bottom))
        if top:
            self.assertTrue(is_at_most((top, 1), best_mix(order, just).share(*pair)))
        for part in (1, 1000, 10 ** 12):
            more = (kept * (bottom * part)).with_count(*pair, top * part + 1)
            self.assertFalse(is_at_most(cost(order, more), scaled(value, bottom * part)))

    def test_by_hand(self):
        order = antichain(3)
        self.gives(((0, 1), (0, 1), (0, 1)), tie_ends, order, Counts(), 0, 1)
        # All tolls are paid by one line, in which 2 is over 0.
        self.gives(((3, 1), (3, 1), (3, 1)), tie_ends, order, Counts([(2, 0, 3)]), 0, 2)
        self.gives(((0, 1), (0, 1), (0, 1)), tie_ends, order, Counts([(2, 0, 3)]), 2, 0)
        self.gives(((3, 1), (3, 1), (3, 1)), tie_ends, order, Counts([(1, 0, 3)]), 0, 2)

    def test_shares_that_are_no_whole_numbers(self):
        seen = set()
        for order in [antichain(4), antichain(5), bent(), standard(3), crown(4, reach=1)]:
            for tolls in few_counts(order, 6, 7, 2):
                for u, v in open_pairs(order)[::5]:
                    self.ended(order, tolls, u, v)
                    seen.add(tie_ends(order, tolls, u, v)[2][1])
        self.assertGreater(len(seen), 1)

    def test_great_tolls(self):
        for order in (many_lines(), five_thousand_lower_sets(), antichain(6)):
            for tolls in few_counts(order, 1, 25, 10 ** 28):
                u, v = open_pairs(order)[5]
                self.ended(order, tolls, u, v)

    def test_full_costs(self):
        for order in ORDERS + [standard(4)]:
            value = full_cost(order)
            for u, v in open_pairs(order)[::2]:
                made = full_cost(tied(order, (u, v)))
                self.assertTrue(is_at_most(made, add_up(scaled(value, 2), (-1, 1))))
                if (u, v) in single_ties(order):
                    self.assertTrue(is_at_most(value, add_up(made, (1, 1))))
        less = Order(6, [step for step in standard(3) if step != (0, 4)])
        self.assertEqual([full_cost(less), full_cost(tied(less, (0, 4))), full_cost(tied(standard(3), (0, 3)))],
                         [(2, 1), (3, 1), (2, 1)])

    def test_tight_pairs(self):
        for order in ORDERS:
            for x, y in tight_pairs(order)[::2]:
                made = tied(order, (x, y))
                self.assertEqual(set(all_pairs(made)), set(all_pairs(order)) - {(x, y)})
                for tolls in some_tolls(order):
                    rest = cost(made, tolls.with_count(x, y, 0))
                    self.assertTrue(is_at_most(cost(order, tolls), add_up(rest, (tolls[x, y], 1))))

    def test_refusals(self):
        fit = Counts([(1, 0, 1)])
        for call in (tie_ends, both_ties):
            self.fails(Unfit(0, 2), call, ORDER, Counts([(0, 2, 1)]), 9, 9)
            for wrong in (4, -1, True, False, None, "0"):
                self.fails(BadPlace("u"), call, ORDER, fit, wrong, wrong)
                self.fails(BadPlace("v"), call, ORDER, fit, 0, wrong)
            for u, v in ((0, 2), (2, 0), (0, 0), (3, 1)):
                self.fails(NotOpen(u, v), call, ORDER, fit, u, v)

    def test_thirty_tolls(self):
        order = antichain(7)
        pairs = [pair for pair in all_pairs(order) if pair not in ((5, 6), (6, 5))]
        # (6, 5) counts beside 29 kept ones, even untolled; (5, 6) is not kept behind the tie (5, 6).
        self.assertEqual(len(tie_ends(order, Counts.at(pairs[:29]), 5, 6)), 3)
        self.fails(TooMany(30), tie_ends, order, Counts.at(pairs[:30]), 5, 6)
        self.assertEqual(len(tie_ends(order, Counts.at(pairs[:29] + [(6, 5)]), 5, 6)), 3)
        self.assertEqual(len(tie_ends(order, Counts.at(pairs[:29] + [(5, 6)]), 5, 6)), 3)
        self.assertEqual(len(tie_ends(order, Counts.at(pairs[:29] + [(5, 6), (6, 5)]), 5, 6)), 3)
        self.fails(TooMany(30), tie_ends, order, Counts.at(pairs[:30] + [(6, 5)]), 5, 6)
        self.fails(NotOpen(5, 5), tie_ends, order, Counts.at(pairs[:30]), 5, 5)

    def test_lower_sets(self):
        for order in (antichain(13), five_thousand_lower_sets() >> chain(1)):
            self.fails(TooMany(5000), tie_ends, order, Counts(), 0, 1)
            self.fails(TooMany(5000), tie_ends, order, Counts([(1, 0, 1)]), 0, 1)
        order = antichain(14)
        pairs = all_pairs(order)
        self.fails(TooMany(30), tie_ends, order, Counts.at(pairs[:40]), 0, 1)
        self.fails(TooMany(5000), tie_ends, order, Counts.at(pairs[:30]), 0, 1)
        # The pair (1, 0) is counted ahead of a look at the lower sets, even untolled.
        others = [pair for pair in pairs if pair not in ((0, 1), (1, 0))]
        self.fails(TooMany(30), tie_ends, order, Counts.at(others[:30]), 0, 1)
        self.fails(TooMany(5000), tie_ends, order, Counts.at(others[:29]), 0, 1)
        self.fails(TooMany(5000), tie_ends, order, Counts.at(others[:29] + [(1, 0)]), 0, 1)
        self.assertEqual(len(tie_ends(five_thousand_lower_sets(), Counts(), 0, 1)), 3)


class TieWorthTest(CostCase):
    def test_worths(self):
        # [85]
        for order in ORDERS:
            for u, v in open_pairs(order)[::2]:
                made = tied(order, (u, v))
                for weights in some_counts(made, 2, 4):
                    value, tied_value = worth(order, weights), worth(made, weights)
                    back = sum(number for y, x, number in weights if order.is_under(x, u) and order.is_under(v, y))
                    self.assertLessEqual(tied_value, value)
                    self.assertGreaterEqual(2 * tied_value, value + back)


class BothTiesTest(CostCase):
    def test_by_their_words(self):
        # [86]
        for order in ORDERS:
            for u, v in open_pairs(order)[::2]:
                first, second = tied(order, (u, v)), tied(order, (v, u))
                for tolls in some_tolls(order):
                    kept = Counts([(x, y, toll) for x, y, toll in tolls
                                   if (x, y) in all_pairs(first) and (x, y) in all_pairs(second)])
                    told = self.told(both_ties, order, tolls, u, v)
                    self.assertEqual(told, (cost(order, kept), cost(first, kept), cost(second, kept)))
                    self.assertTrue(is_at_most(told[0], told[1]) and is_at_most(told[0], told[2]))
                    self.assertTrue(is_at_most(add_up(told[1], told[2]), scaled(told[0], 3)))

    def test_bounds(self):
        order = antichain(7)
        many = Counts.at(all_pairs(order)[:31])
        self.fails(TooMany(30), both_ties, order, many, 5, 6)
        # Neither (0, 1) nor (1, 0) is kept on both.
        self.assertEqual(len(both_ties(order, many, 0, 1)), 3)
        self.fails(TooMany(5000), both_ties, antichain(13), Counts(), 0, 1)
        self.fails(TooMany(5000), both_ties, five_thousand_lower_sets() >> chain(1), Counts(), 0, 1)


class UntiedTest(CostCase):
    def test_by_its_words(self):
        # [87]
        for order in [order for size in (2, 3, 4) for order in orders_of(size)][::3] + some_orders(8, 5, 6) + [bent()]:
            for u, v in order.next_steps():
                fewer = untied(order, u, v)
                for tolls in some_tolls(fewer):
                    kept = Counts([(x, y, toll) for x, y, toll in tolls if (x, y) != (u, v)])
                    self.assertEqual(kept_on(order, tolls), kept)
                    bound = self.told(untied_bound, order, tolls, u, v)
                    self.assertEqual(bound, add_up(cost(order, kept), (tolls[u, v], 1)))
                    value = cost(fewer, tolls)
                    self.assertTrue(is_at_most(value, bound))
                    self.assertTrue(is_at_most(add_up(cost(order, kept), (tolls[v, u], 1)), scaled(value, 2)))

    def test_by_hand(self):
        self.gives((7, 1), untied_bound, chain(2), Counts([(0, 1, 3), (1, 0, 4)]), 0, 1)
        self.gives((BIG, 1), untied_bound, ORDER, Counts([(1, 3, BIG)]), 1, 3)

    def test_refusals(self):
        for wrong in (4, -1, True, False, None, "0"):
            self.fails(BadPlace("u"), untied_bound, ORDER, Counts([(0, 0, 1)]), wrong, wrong)
            self.fails(BadPlace("v"), untied_bound, ORDER, Counts([(0, 0, 1)]), 0, wrong)
        for order, u, v in ((ORDER, 0, 1), (ORDER, 2, 0), (chain(3), 0, 2), (ORDER, 1, 1), (ORDER, 0, 3)):
            self.fails(NotOpen(u, v), untied_bound, order, Counts([(0, 0, 1)]), u, v)
        self.fails(Unfit(1, 2), untied_bound, ORDER, Counts([(0, 2, 1), (1, 2, 1)]), 0, 2)
        self.fails(Unfit(0, 2), untied_bound, ORDER, Counts([(0, 2, 1), (1, 3, 1)]), 1, 3)

    def test_bounds(self):
        order = Order(7, [(5, 6)])
        pairs = all_pairs(order)
        self.fails(TooMany(30), untied_bound, order, Counts.at(pairs[:31]), 5, 6)
        # (5, 6) is no pair of the order itself.
        self.assertEqual(len(untied_bound(order, Counts.at(pairs[:30] + ((5, 6),)), 5, 6)), 2)
        self.fails(TooMany(5000), untied_bound, Order(13, [(0, 1)]), Counts(), 0, 1)
        self.fails(Unfit(1, 1), untied_bound, Order(13, [(0, 1)]), Counts([(1, 1, 1)]), 0, 1)
        self.gives((0, 1), untied_bound, Order(12, [(3, 4)]), Counts(), 3, 4)


if __name__ == "__main__":
    unittest.main()
