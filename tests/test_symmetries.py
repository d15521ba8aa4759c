"""linemix/symmetries.py, with [127] and [128]."""

import random
import unittest
from fractions import Fraction
from itertools import permutations

from linemix.bests import is_best_mix, is_best_paper
from linemix.circles import circles_in
from linemix.costs import best_mix, best_paper, full_cost, tight_ones
from linemix.counts import Counts
from linemix.crowns import crown_cost, crown_pairs
from linemix.errors import BadPair, BadRow, NoPairs, NotAlike, OtherSize, TooMany, Unfit
from linemix.families import table_of
from linemix.leading import tight_pairs
from linemix.lines import is_line, lines_of
from linemix.lots import most_at_once
from linemix.means import mean_place
from linemix.mixes import Mix
from linemix.numbers import is_at_most
from linemix.orders import Order
from linemix.pairs import all_pairs, open_pairs
from linemix.papers import Paper
from linemix.rings import least_rings
from linemix.rowing import row_turns
from linemix.shapes import antichain, bent, chain, crown, stacked, standard
from linemix.symmetries import (
    are_exchangeable, averaged, averaged_paper, exchanged_cost, keeping, renamed_counts, renamed_mix, renamings,
)
from tests.plain_support import told
from tests.support import (
    NO_LISTS, NO_PAIRS, ORDER, CostCase, few_counts, five_thousand_lower_sets, many_lines, small_orders, some_orders,
)

ORDERS = small_orders()[::4] + some_orders(8, 5, 6) + [antichain(4), bent(), standard(3)]
# Orders with renamings enough to be of interest, and few tolled pairs.
ALIKE = [antichain(3), antichain(4), standard(3), stacked([2, 2]), chain(2) + chain(2), bent(), crown(4, reach=1)]


def plain_renamings(order):
    """All renamings, by a look at all rows."""
    steps = set(order.steps_told())
    return [row for row in permutations(range(order.size))
            if {(row[x], row[y]) for x, y in steps} == steps]


def led(row, pair):
    return row[pair[0]], row[pair[1]]


class RenamingsTest(CostCase):
    def test_all_rows(self):
        for order in small_orders() + ORDERS:
            self.gives(plain_renamings(order), renamings, order)

    def test_many(self):
        self.assertEqual(len(renamings(antichain(6))), 720)
        self.fails(TooMany(1000), renamings, antichain(7))
        self.fails(TooMany(1000), renamings, antichain(16))
        self.fails(TooMany(1000), renamings, standard(8))
        self.assertEqual(len(renamings(standard(6))), 720)
        self.fails(TooMany(1000), renamings, standard(7))
        self.fails(TooMany(1000), renamings, Order(16, [(14, 15)]))
        self.gives([tuple(range(16))], renamings, chain(16))
        self.gives([(0,)], renamings, chain(1))
        for many, reach in ((4, 1), (8, 1), (8, 3), (8, 5), (7, 2)):
            self.assertEqual(len(self.told(renamings, crown(many, reach=reach))), 2 * many)
        self.assertEqual(len(renamings(chain(2) * chain(2) * chain(2) * chain(2))), 24)
        # 5! * 2! = 240 ways to exchange equal chains.
        self.assertEqual(len(renamings(many_lines())), 240)
        self.assertEqual(len(renamings(antichain(5) >> antichain(3))), 720)
        self.assertEqual(len(renamings((antichain(4) >> antichain(4)) >> chain(2))), 576)
        self.fails(TooMany(1000), renamings, antichain(5) >> antichain(4))
        self.assertEqual(len(renamings(stacked([5, 2, 2, 2]))), 960)
        self.fails(TooMany(1000), renamings, stacked([4, 4, 2]))
        for order in (crown(8, reach=1), many_lines(), five_thousand_lower_sets().on(tuple(range(12)))):
            for row in renamings(order):
                self.assertTrue(all(order.is_below(row[x], row[y]) for x, y in order.steps_told()))

    def test_what_renamings_keep(self):
        # [127]
        dice = random.Random("renamings")
        for order in ALIKE + ORDERS[::5]:
            rows = renamings(order)
            tight = set(tight_pairs(order))
            lot = tuple(dice.sample(all_pairs(order), min(8, len(all_pairs(order)))))
            for row in rows[::max(1, len(rows) // 6)]:
                for line in lines_of(order, first=10):
                    self.assertTrue(is_line(order, [row[place] for place in line]))
                for _ in range(3):
                    other = dice.sample(range(order.size), order.size)
                    turned = row_turns(order, [row[place] for place in other])
                    self.assertEqual(set(turned), {led(row, pair) for pair in row_turns(order, other)})
                self.assertEqual({led(row, pair) for pair in tight}, tight)
                renamed = {frozenset(led(row, pair) for pair in ring) for ring in least_rings(order, lot)}
                self.assertEqual({frozenset(ring) for ring in least_rings(order, [led(row, pair) for pair in lot])}, renamed)
                if order.size >= 2:
                    chosen, family, counts = table_of(order, tight_ones(order))
                    circles = {frozenset(chosen[a] for a in circle)
                               for circle in circles_in(family, [(a, j) for a, j, _ in counts])}
                    if not order.is_chain():
                        self.assertEqual({frozenset(row[x] for x in circle) for circle in circles}, circles)


class RenamedTest(CostCase):
    def test_counts(self):
        dice = random.Random("renamed")
        for order in ORDERS:
            for counts in few_counts(order, 2, 6, 5):
                row = tuple(dice.sample(range(order.size), order.size))
                wanted = Counts([(row[x], row[y], number) for x, y, number in counts])
                self.gives(wanted, renamed_counts, counts, row)
                self.assertEqual(renamed_counts(counts, list(row)), wanted)
        self.gives(Counts([(5, 0, 3), (2, 2, 1)]), renamed_counts, Counts([(0, 1, 3), (4, 4, 1)]), (5, 0, 1, 3, 2, 4))
        self.gives(Counts(), renamed_counts, Counts(), ())

    def test_refusals_of_counts(self):
        counts = Counts([(0, 1, 1), (0, 3, 1), (3, 0, 2)])
        for value in NO_LISTS:
            self.fails(BadRow(-1), renamed_counts, counts, value)
        for row, place in (((0, 0), 1), ((0, 2), 1), ((1, 2, 3), 2), ((True, 0), 0), ((0, None), 1), ((-1, 0), 0)):
            self.fails(BadRow(place), renamed_counts, counts, row)
        self.fails(Unfit(0, 3), renamed_counts, counts, (2, 1, 0))
        self.fails(Unfit(0, 1), renamed_counts, counts, (0,))
        self.fails(Unfit(0, 1), renamed_counts, counts, ())
        self.fails(Unfit(3, 0), renamed_counts, Counts([(0, 1, 1), (3, 0, 1)]), (1, 0, 2))

    def test_mixes(self):
        mix = Mix(4, [((0, 1, 2), 3), ((2, 0, 1), 1)])
        told_mix = self.gives(Mix(4, [((2, 0, 1), 3), ((1, 2, 0), 1)]), renamed_mix, mix, [2, 0, 1])
        self.assertEqual(told_mix.bottom, 4)
        self.gives(mix, renamed_mix, mix, (0, 1, 2))
        # A mix without lines is returned unchanged, whatever the row is.
        for row in NO_LISTS + ((), (0, 0), [5]):
            self.gives(Mix(7, ()), renamed_mix, Mix(7, ()), row)
            self.assertEqual(renamed_mix(Mix(7, ()), row).bottom, 7)
        for order in ALIKE:
            best = best_mix(order, tight_ones(order))
            for row in renamings(order)[::3]:
                other = renamed_mix(best, row)
                self.assertTrue(other.holds_in(order))
                self.assertEqual(other.total, best.total)
                for x, y in open_pairs(order):
                    self.assertEqual(other.share(row[x], row[y]), best.share(x, y))

    def test_refusals_of_mixes(self):
        mix = Mix(4, [((0, 1, 2), 3)])
        for value in NO_LISTS:
            self.fails(BadRow(-1), renamed_mix, mix, value)
        for row, place in (((0, 0, 1), 1), ((0, 1), 2), ((0, 1, 3), 2), ((0, 1, 2, 3), 3), ((True, 0, 2), 0), ((), 0)):
            self.fails(BadRow(place), renamed_mix, mix, row)


class KeepingTest(CostCase):
    def test_by_their_words(self):
        for order in ORDERS + ALIKE:
            for tolls in few_counts(order, 3, 2, 2) + [Counts(), tight_ones(order)]:
                wanted = [row for row in plain_renamings(order) if renamed_counts(tolls, row) == tolls] \
                    if order.size <= 6 else [row for row in renamings(order) if renamed_counts(tolls, row) == tolls]
                self.gives(wanted, keeping, order, tolls)

    def test_refusals(self):
        self.fails(Unfit(0, 2), keeping, ORDER, Counts([(0, 2, 1), (1, 2, 1)]))
        self.fails(Unfit(7, 7), keeping, antichain(7), Counts([(7, 7, 1)]))
        self.fails(TooMany(1000), keeping, antichain(7), Counts([(0, 1, 1)]))
        self.fails(TooMany(1000), keeping, antichain(7), Counts())
        # Great counts that no renaming but one keeps do not help.
        order = antichain(8)
        self.fails(TooMany(1000), keeping, order, Counts([(x, y, 1 + 8 * x + y) for x, y in all_pairs(order)]))


def some_tolls(order):
    """Tolls that some renamings keep, and some that few keep."""
    pair = open_pairs(order)[0]
    return [tight_ones(order), Counts.at([pair]), Counts.at([pair, pair[::-1]], number=3)] + few_counts(order, 1, 3, 2) \
        + [Counts()]


class AveragedTest(CostCase):
    def test_mixes(self):
        # [127]
        dice = random.Random("averaged")
        for order in ALIKE:
            lines = lines_of(order, first=10)
            for tolls in some_tolls(order):
                rows = keeping(order, tolls)
                best = best_mix(order, tolls)
                for mix in (best, Mix(3, [(dice.choice(lines), dice.randint(1, 4)) for _ in range(3)]), Mix(2, ())):
                    mean = self.told(averaged, order, tolls, mix)
                    self.assertEqual(mean.total, mix.total)
                    self.averaged(mean, mix, rows)
                    self.even_among(order, mean, rows)
                if len(tolls) <= 8:
                    self.assertTrue(is_best_mix(order, tolls, averaged(order, tolls, best)))

    def averaged(self, mean, mix, rows):
        weights = {}
        for row in rows:
            for line, number in mix:
                renamed = tuple(row[place] for place in line)
                weights[renamed] = weights.get(renamed, 0) + Fraction(number, mix.bottom * len(rows))
        self.assertEqual({line: Fraction(number, mean.bottom) for line, number in mean}, weights)

    def even_among(self, order, mean, rows):
        if len(mean) == 0:
            return
        for row in rows:
            for x, y in open_pairs(order):
                self.assertEqual(mean.share(x, y), mean.share(row[x], row[y]))
            for x in range(order.size):
                self.assertEqual(mean_place(mean, x), mean_place(mean, row[x]))

    def test_papers(self):
        # [127]
        for order in ALIKE:
            for tolls in some_tolls(order):
                rows = keeping(order, tolls)
                for paper in (best_paper(order, tolls), Paper(5, Counts.at(open_pairs(order)[:3], number=2))):
                    mean = self.told(averaged_paper, order, tolls, paper)
                    weights = {}
                    for row in rows:
                        for x, y, number in paper:
                            pair = led(row, (x, y))
                            weights[pair] = weights.get(pair, 0) + Fraction(number, paper.bottom * len(rows))
                    self.assertEqual({(x, y): Fraction(number, mean.bottom) for x, y, number in mean}, weights)
                    for row in rows:
                        self.assertEqual(renamed_counts(mean.counts, row), mean.counts)
                if len(tolls) <= 8:
                    self.assertTrue(is_best_paper(order, tolls, averaged_paper(order, tolls, best_paper(order, tolls))))

    def test_by_hand(self):
        order = antichain(2)
        self.gives(Mix(2, [((0, 1), 1), ((1, 0), 1)]), averaged, order, Counts(), Mix(1, [((0, 1), 1)]))
        self.gives(Mix(1, [((0, 1), 1)]), averaged, order, Counts([(1, 0, 1)]), Mix(1, [((0, 1), 1)]))
        self.gives(Paper(2, Counts.ones(order)), averaged_paper, order, Counts(), Paper(1, Counts([(0, 1, 1)])))
        # Lines that are no lines of the order are let.
        self.gives(Mix(3, [((1, 0), 2)]), averaged, chain(2), Counts(), Mix(3, [((1, 0), 2)]))

    def test_refusals_in_their_order(self):
        unfit = Counts([(0, 2, 1), (1, 2, 1)])
        other = Mix(1, [((0, 1, 2), 1)])
        self.fails(Unfit(0, 2), averaged, ORDER, unfit, other)
        self.fails(OtherSize(3), averaged, ORDER, Counts(), other)
        self.fails(OtherSize(3), averaged, antichain(7), Counts(), other)
        self.fails(TooMany(1000), averaged, antichain(7), Counts(), Mix(1, ()))
        self.fails(Unfit(0, 2), averaged_paper, ORDER, unfit, Paper(1, Counts([(1, 1, 1)])))
        self.fails(Unfit(1, 1), averaged_paper, ORDER, Counts(), Paper(1, Counts([(1, 1, 1), (1, 2, 3)])))
        self.fails(Unfit(1, 1), averaged_paper, antichain(7), Counts(), Paper(1, Counts([(1, 1, 1)])))
        self.fails(TooMany(1000), averaged_paper, antichain(7), Counts(), Paper(1, Counts()))


class ExchangeableTest(CostCase):
    def test_by_their_words(self):
        # [128]
        dice = random.Random("exchangeable")
        seen = set()
        for order in ORDERS + ALIKE:
            rows = renamings(order)
            pairs = all_pairs(order)
            lots = [tight_pairs(order), pairs[:1], ()] + [
                tuple(sorted(dice.sample(pairs, min(len(pairs), many)))) for many in (2, 2, 3)]
            for lot in lots:
                wanted = all(any(led(row, one) == other for row in rows) for one in lot for other in lot)
                seen.add((wanted, len(lot) > 1))
                self.gives(wanted, are_exchangeable, order, lot[::-1])
        self.assertEqual(seen, {(True, True), (True, False), (False, True)})

    def test_crowns(self):
        # [128]
        for many in range(3, 7):
            for reach in range(many - 2):
                order = crown(many, reach=reach)
                lot = crown_pairs(many, reach=reach)
                alike = are_exchangeable(order, lot)
                if reach <= 1:
                    self.assertTrue(alike)
                if alike and len(lot) <= 12:
                    self.gives(crown_cost(many, reach=reach), exchanged_cost, order)
                if len(lot) <= 12:
                    self.assertEqual(told(Fraction(len(lot), most_at_once(order, lot))), crown_cost(many, reach=reach))
                offsets = [{(i, many + (i + d) % many) for i in range(many)} for d in range(reach + 1)]
                self.assertTrue(any(all({led(row, pair) for pair in offsets[d]} == offsets[reach - d]
                                        for d in range(reach + 1)) for row in renamings(order)))

    def test_exchanged_costs(self):
        # [128]
        seen = 0
        for order in ORDERS + ALIKE + [antichain(3) >> antichain(1), standard(5)]:
            tight = tight_pairs(order)
            if order.is_chain():
                self.fails(NoPairs(), exchanged_cost, order)
            elif len(tight) > 12:
                self.fails(TooMany(12), exchanged_cost, order)
            else:
                share = told(Fraction(len(tight), most_at_once(order, tight)))
                self.assertTrue(is_at_most(share, full_cost(order)))
                if are_exchangeable(order, tight):
                    seen += 1
                    self.assertEqual(self.gives(share, exchanged_cost, order), full_cost(order))
                else:
                    self.fails(NotAlike(), exchanged_cost, order)
        self.assertGreater(seen, 10)
        self.assertEqual(exchanged_cost(crown(4, reach=1)), (8, 3))

    def test_refusals_in_their_order(self):
        for value in NO_LISTS:
            self.fails(BadPair(-2), are_exchangeable, ORDER, value)
        for value in NO_PAIRS:
            self.fails(BadPair(1), are_exchangeable, ORDER, [(1, 0), value])
        self.fails(BadPair(1), are_exchangeable, antichain(7), [(1, 0), (1, 0)])
        for lot in ((), [(1, 0)], [(1, 0), (0, 1)]):
            self.fails(TooMany(1000), are_exchangeable, antichain(7), lot)
        for size in (1, 2, 16):
            self.fails(NoPairs(), exchanged_cost, chain(size))
        # More than 12 tight pairs are told ahead of more than 1000 renamings.
        self.fails(TooMany(12), exchanged_cost, antichain(7))
        self.fails(TooMany(12), exchanged_cost, antichain(5))
        self.fails(TooMany(1000), exchanged_cost, standard(7))
        # 12 tight pairs, of which those within two levels are not alike; with many renamings that comes first.
        self.fails(NotAlike(), exchanged_cost, antichain(2) >> antichain(3))
        self.fails(TooMany(1000), exchanged_cost, standard(7) >> antichain(2))


if __name__ == "__main__":
    unittest.main()
