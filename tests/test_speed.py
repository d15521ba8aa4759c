"""Calls must stay quick: some thousand of them on small orders, and single ones at the bounds of [0.6].

The limits are far above what the calls take, so that a slow machine passes; a search through all lines would not.
"""

import random
import time
import unittest

from linemix.bests import in_best, is_best_mix, is_best_paper, least_fullness, met_just
from linemix.between import cost_ends, orders_between, three_worlds
from linemix.calms import corners, is_calm
from linemix.circles import circles_in, level_parts, standard_in
from linemix.chains import chain_cover, heaviest, high_line, loaded_cover, low_line, width
from linemix.costs import best_mix, best_paper, cost, full_cost
from linemix.counts import Counts
from linemix.desks import Desk
from linemix.endless import endless
from linemix.evens import clear_line, even_mix, is_even, mate
from linemix.filling import closed_sets, fills, needed_places
from linemix.families import family_cost, family_mix, family_worth, table_of
from linemix.leading import tight_for, tight_pairs
from linemix.levels import level_cost, tree_line
from linemix.lines import lines_of
from linemix.listings import listing
from linemix.lots import greatest_lots, least_meetings, most_against, most_at_once
from linemix.many import greedy_bound, least_times, whole_many
from linemix.means import mean_ends, mean_mix
from linemix.mixes import Mix
from linemix.moving import falls, moved_down
from linemix.odds import odd_bound, odd_round
from linemix.onemore import chain_bound, place_bound
from linemix.orders import Order
from linemix.pairs import all_pairs, is_quiet, open_pairs, sure_pairs
from linemix.papers import Paper
from linemix.putting import cross_counts, put_cost, put_in
from linemix.pointlots import full_circle, lots_of_size, ones_at
from linemix.quiets import loud_quiet, quiet_cost, quiet_paper
from linemix.rings import is_turnable, least_rings, ring_in
from linemix.rises import critical_toll, drop, greatest_share, least_share, rise, share_mix
from linemix.rowing import row_cost, row_turns, row_worth
from linemix.separates import cut_cost, cut_paper, cut_worth, separate_steps
from linemix.series import is_series
from linemix.shapes import antichain, bent, chain, crown, standard
from linemix.shares import dearest_ring, ring_cost, share_of
from linemix.splits import split_tolls
from linemix.symmetries import averaged, averaged_paper, exchanged_cost, keeping, renamings
from linemix.turning import Turner, line_for
from linemix.twochains import dearest_couple, richest_quiet
from linemix.tying import both_ties, tie_ends
from linemix.unseen import Notes, best_everywhere, cost_stretch, line_regret, richest_everywhere, tolls_costing
from linemix.walking import place_walk, tie_walk
from linemix.wholes import dimension, whole_lines
from linemix.widths import best_bound, is_standard, load_bound, load_mix
from linemix.worths import richest, worth
from tests.families_support import point_counts, sixty_lots, some_families
from tests.support import (
    few_counts, five_thousand_lower_sets, many_lines, some_counts, some_lots, some_orders, thousand_lines,
)

LIMIT = 30
BIG = 10 ** 30


class SpeedTest(unittest.TestCase):
    def quick(self, calls):
        begin = time.monotonic()
        for call, *args in calls:
            call(*args)
        self.assertLess(time.monotonic() - begin, LIMIT)

    def test_thousands_of_calls_with_lots(self):
        calls = []
        for order in some_orders(40, 5, 6) + [antichain(6), bent(), standard(3)]:
            for lot in some_lots(order, 12, 12):
                calls += [(call, order, lot) for call in (
                    is_quiet, line_for, ring_in, is_turnable, least_rings, greatest_lots, least_meetings, most_at_once)]
        self.assertGreater(len(calls), 4000)
        self.quick(calls)

    def test_thousands_of_calls_with_orders_and_counts(self):
        calls = []
        for order in some_orders(60, 5, 6) + [antichain(6), bent(), standard(3)]:
            loads = [place * place + 1 for place in range(order.size)]
            calls += [(call, order) for call in (all_pairs, open_pairs, sure_pairs, tight_pairs, width, chain_cover)]
            calls += [(call, order, [0]) for call in (low_line, high_line)]
            calls += [(heaviest, order, loads), (loaded_cover, order, loads)]
            calls += [(tight_for, order, pair) for pair in open_pairs(order)]
            calls += [(call, order, counts) for counts in some_counts(order, 10, BIG) for call in (worth, richest)]
        self.assertGreater(len(calls), 2000)
        self.quick(calls)

    def test_sixteen_places(self):
        loads = [random.Random(place).randint(0, BIG) for place in range(16)]
        for order in (antichain(16), chain(16), many_lines(), standard(8), antichain(8) >> antichain(8)):
            pairs = all_pairs(order)
            self.quick([(is_quiet, order, pairs), (ring_in, order, pairs), (line_for, order, pairs[::3])])
            self.quick([(heaviest, order, loads), (loaded_cover, order, loads), (Turner(order), tuple(range(16)))])

    def test_bounds_of_listing(self):
        for size in (4, 5, 7, 12, 16):
            pairs = all_pairs(antichain(size))
            for at in range(30):
                lot = random.Random(at).sample(pairs, 12)
                self.quick([(call, antichain(size), lot) for call in (least_rings, greatest_lots, most_at_once)])
        self.quick([(most_against, standard(8)), (most_against, antichain(4))])

    def test_five_thousand_lower_sets(self):
        order = five_thousand_lower_sets()
        counts = Counts.ones(order) * BIG
        self.quick([(worth, order, counts), (richest, order, counts), (Paper(1, counts).holds_in_order, order)])

    def test_thousands_of_costs(self):
        calls = []
        for order in some_orders(60, 5, 6) + [antichain(6), bent(), standard(3)]:
            for tolls in few_counts(order, 20, 5, BIG) + few_counts(order, 20, 5, 3):
                calls += [(cost, order, tolls), (best_mix, order, tolls), (best_paper, order, tolls)]
        self.assertGreater(len(calls), 7000)
        self.quick(calls)

    def test_thousands_of_whole_costs(self):
        calls = []
        for order in some_orders(60, 5, 6) + [antichain(6), bent(), standard(3)]:
            for tolls in few_counts(order, 10, 5, 4) + few_counts(order, 10, 12, 2):
                calls += [(whole_lines, order, tolls)]
                calls += [(endless, order, tolls, pair) for pair in open_pairs(order)[:1]]
                calls += [(split_tolls, order, tolls, *pair) for pair in open_pairs(order)[:1]]
        self.assertGreater(len(calls), 3000)
        self.quick(calls)

    def test_bounds_of_costs(self):
        for order in (antichain(12), five_thousand_lower_sets(), many_lines(), antichain(7), standard(6)):
            for tolls in few_counts(order, 3, 30, BIG) + few_counts(order, 3, 30, 2):
                self.quick([(call, order, tolls) for call in (cost, best_mix, best_paper, falls, moved_down)])
            self.quick([(whole_lines, order, tolls) for tolls in few_counts(order, 3, 12, 2)])
        self.quick([(full_cost, antichain(6)), (dimension, standard(8)), (standard_in, standard(8))])
        order = antichain(16)
        tolls = Counts([(x, (x + y) % 16, BIG - x) for x in range(12) for y in (3, 7)] + [(x, 15, 1) for x in range(6)])
        self.quick([(row_cost, order, tolls)])
        weights = Counts([(x, y, BIG + x * y) for x, y in all_pairs(order) if x < 12])
        self.quick([(row_worth, order, weights), (table_of, order, weights), (row_turns, order, tuple(range(16)))])

    def test_bounds_of_families(self):
        for family in [sixty_lots()] + some_families(5, 12, 12):
            pairs = family.point_pairs()
            for tolls in point_counts(family, 2, 30, BIG) + point_counts(family, 2, 30, 2):
                self.quick([(family_cost, family, tolls), (family_mix, family, tolls)])
            ones = Counts.at(pairs)
            self.quick([(family_worth, family, ones), (level_parts, family, ones), (circles_in, family, pairs)])

    def test_thousands_of_calls_on_made_orders(self):
        calls = []
        for order in some_orders(60, 6, 7) + [standard(3), bent()]:
            for tolls in few_counts(order, 5, 5, 9):
                for x in range(order.size):
                    calls += [(place_bound, order, tolls, x), (chain_bound, order, tolls, (x,))]
                calls += [(load_mix, order, tolls), (load_bound, order, tolls)]
                for u, v in open_pairs(order)[:2]:
                    calls += [(tie_ends, order, tolls, u, v), (both_ties, order, tolls, u, v)]
            calls += [(call, order) for call in (best_bound, needed_places, is_series, is_standard, closed_sets)]
        for order in some_orders(100, 3, 3):
            parts = some_orders(3, 1, 3)
            inner = [few_counts(part, 1, 3, 5)[0] for part in parts]
            for tolls in few_counts(order, 5, 4, 5):
                calls += [(put_in, order, parts), (cross_counts, order, parts, tolls)]
                calls += [(put_cost, order, tolls, parts, inner)]
        self.assertGreater(len(calls), 5000)
        self.quick(calls)

    def test_bounds_of_made_orders(self):
        for order in (antichain(12), five_thousand_lower_sets(), many_lines(), antichain(7)):
            for tolls in few_counts(order, 2, 29, BIG) + few_counts(order, 2, 29, 2):
                u, v = open_pairs(order)[3]
                self.quick([(tie_ends, order, tolls, u, v), (both_ties, order, tolls, u, v)])
                self.quick([(place_bound, order, tolls, 0), (load_mix, order, tolls)])
        for order in (chain(12), chain(6) + chain(6), chain(4) + chain(4) + chain(4), standard(6)):
            self.quick([(tie_walk, order, tolls) for tolls in few_counts(order, 1, 30, BIG)])
            self.quick([(place_walk, order)])
        for order in (standard(8), antichain(16), chain(16), many_lines()):
            self.quick([(fills, order, tuple(range(16))), (needed_places, order), (best_bound, order), (is_series, order)])

    def test_thousands_of_calls_on_rings_and_shapes(self):
        calls = []
        for order in some_orders(60, 5, 6) + [antichain(6), bent(), standard(3)]:
            for lot in some_lots(order, 12, 5):
                calls += [(corners, order, lot), (is_calm, order, lot), (loud_quiet, order, lot)]
            for tolls in few_counts(order, 6, 5, BIG) + few_counts(order, 6, 5, 3):
                calls += [(call, order, tolls) for call in (
                    dearest_ring, ring_cost, quiet_cost, quiet_paper, dearest_couple, richest_quiet, cut_cost, cut_worth)]
            calls += [(call, order) for call in (clear_line, even_mix, odd_round, separate_steps)]
        self.assertGreater(len(calls), 7000)
        self.quick(calls)

    def test_bounds_of_rings_and_shapes(self):
        for order in (antichain(5), antichain(7), antichain(12), antichain(16), crown(6, reach=1), many_lines()):
            for tolls in few_counts(order, 4, 12, BIG) + few_counts(order, 4, 12, 2):
                lot = [(x, y) for x, y, _ in tolls]
                self.quick([(call, order, tolls) for call in (ring_cost, quiet_cost, quiet_paper, richest_quiet)])
                self.quick([(loud_quiet, order, lot), (share_of, order, tolls, lot)])
            self.quick([(corners, order, lot) for lot in some_lots(order, 30, 5)])
        for order in (antichain(16), chain(16), many_lines(), five_thousand_lower_sets(), standard(8), crown(8, reach=5),
                      chain(8) + chain(8), chain(4) * chain(4), standard(3) + antichain(10)):
            ones = Counts.ones(order)
            self.quick([(clear_line, order), (odd_round, order), (separate_steps, order), (dearest_couple, order, ones)])
            self.quick([(cut_worth, order, ones)])
            for tolls in few_counts(order, 2, 30, BIG) + few_counts(order, 2, 30, 2):
                self.quick([(cut_cost, order, tolls), (cut_paper, order, tolls)])
        line = tuple(range(16))
        rows = [(tuple(random.Random(at).sample(line, 16)), at + 1) for at in range(1000)]
        self.quick([(mate, antichain(16), line), (is_even, antichain(16), Mix(BIG, rows)), (odd_bound, antichain(16))])
        self.quick([(full_circle, lots_of_size(8, 3)), (ones_at, lots_of_size(8, 3)), (full_circle, lots_of_size(11, 2))])

    def test_hundreds_of_calls_on_best_mixes(self):
        calls = []
        for order in some_orders(40, 4, 5) + [antichain(5)]:
            line = lines_of(order, first=1)[0]
            for tolls in few_counts(order, 4, 4, BIG) + few_counts(order, 4, 4, 3):
                mix, paper = best_mix(order, tolls), best_paper(order, tolls)
                calls += [(is_best_mix, order, tolls, mix), (is_best_paper, order, tolls, paper)]
                calls += [(least_fullness, order, tolls, line), (in_best, order, tolls, line)]
                calls += [(mean_ends, order, tolls, 0), (mean_mix, order, tolls, 1), (averaged, order, tolls, mix)]
                notes = Notes(tolls, tolls * 3)
                calls += [(cost_stretch, order, notes), (line_regret, order, line, notes)]
                calls += [(best_everywhere, order, paper, notes), (tolls_costing, order, notes, cost(order, tolls * 2))]
                for pair in [(x, y) for x, y, _ in tolls if order.are_open(x, y)][:1]:
                    calls += [(call, order, tolls, pair) for call in (
                        rise, drop, greatest_share, least_share, critical_toll, share_mix, met_just)]
                    calls += [(three_worlds, order, tolls, *pair)]
                if tolls.total_count() <= 12:
                    calls += [(whole_many, order, tolls, 2)]
            calls += [(listing, Desk(order)), (renamings, order)]
        self.assertGreater(len(calls), 5000)
        self.quick(calls)

    def test_bounds_of_best_mixes(self):
        for order in (antichain(12), five_thousand_lower_sets(), many_lines(), antichain(5), standard(6)):
            line = lines_of(order, first=1)[0]
            for tolls in few_counts(order, 2, 8, BIG) + few_counts(order, 2, 8, 2):
                pair = [(x, y) for x, y, _ in tolls if order.are_open(x, y)][0]
                self.quick([(call, order, tolls, pair) for call in (
                    rise, drop, greatest_share, least_share, critical_toll, share_mix, met_just)])
                self.quick([(mean_ends, order, tolls, 3), (in_best, order, tolls, line)])
            for tolls in few_counts(order, 1, 30, BIG) + few_counts(order, 1, 30, 2):
                some = [(x, y) for x, y, _ in tolls][:6]
                notes = Notes(tolls, tolls + Counts.at(some))
                self.quick([(best_everywhere, order, best_paper(order, tolls), notes), (cost_stretch, order, notes)])
                self.quick([(tolls_costing, order, notes, cost(order, notes.lows)), (line_regret, order, line, notes)])
            for tolls in few_counts(order, 3, 8, 1) + few_counts(order, 3, 5, 2):
                self.quick([(least_times, order, tolls)] if order.size < 9 else [(whole_many, order, tolls, 2)])
        ones = Counts.ones(thousand_lines())
        self.quick([(richest_everywhere, thousand_lines(), Notes(Counts(), ones))])
        self.quick([(greedy_bound, antichain(4)), (greedy_bound, standard(8)), (tree_line, antichain(16))])
        order = antichain(4) >> antichain(12)
        self.quick([(level_cost, order, Counts.at(open_pairs(order)[-30:], number=BIG))])

    def test_bounds_of_symmetries_and_orders_between(self):
        for order in (antichain(6), crown(8, reach=3), many_lines(), chain(16), standard(6)):
            mix = Mix(7, [(line, at + 1) for at, line in enumerate(lines_of(order, first=30))])
            self.quick([(renamings, order), (keeping, order, Counts.ones(order)), (averaged, order, Counts(), mix)])
            self.quick([(averaged_paper, order, Counts(), Paper(1, Counts.ones(order)))])
        self.quick([(exchanged_cost, standard(6)), (exchanged_cost, crown(6, reach=1))])
        high = Order(16, [(x, y) for x in (0, 1, 2) for y in (8, 9, 10, 11)])
        self.quick([(orders_between, antichain(16), high)])
        self.quick([(cost_ends, chain(4) + chain(12), chain(16), Counts.at(sure_pairs(chain(16))[:30], number=BIG))])

    def test_deeds_at_sixteen_places(self):
        order = many_lines()
        desk = Desk(order, tolls=few_counts(order, 1, 29, BIG)[0], weights=Counts.ones(order))
        self.quick([(desk.trial, ("turn",), ("drop_place", 0), ("back",), ("set_toll", 0, 15, 3), ("tie", 0, 2)),
                    (desk.mix_now,), (desk.worth_now,), (desk.bounds_now,), (desk.is_even_now,), (listing, desk)])
        quiet = Desk(antichain(2))
        self.quick([(quiet.set_toll, 0, 1, number) for number in range(200)])
        self.quick([(quiet.back,)] * 200)

    def test_mixes_of_many_lines(self):
        order = Order(16)
        rows = [(tuple(random.Random(at).sample(range(16), 16)), at + 1) for at in range(1000)]
        mix = Mix(BIG, rows)
        self.quick([(Mix, BIG, rows), (mix.pays, Counts.ones(order)), (mix.holds_in, order), (mix.__add__, mix)])


if __name__ == "__main__":
    unittest.main()
