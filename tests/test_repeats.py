"""[0.5]: equal calls, equal answers, a list counting as the tuple of its entries; and [1]: nothing is changed."""

import unittest

from linemix import (
    bests, between, calms, chains, circles, commons, costs, counts, crowns, desks, endless, evens, families, filling, games,
    leading, levels, lines, listings, lots, many, means, mixes, moving, numbers, odds, onemore, orders, pairs, papers, places,
    pointlots, products, putting, quiets, rates, rings, rises, rowing, separates, series, shapes, shares, splits, swaps,
    symmetries, texts, ties, turning, twochains, tworows, tying, unseen, valuing, walking, wholes, widths, worths,
)
from linemix.orders import Order
from linemix.shapes import antichain, bent, chain, crown, standard
from tests.support import ORDER, Case, as_lists, five_thousand_lower_sets, many_lines
from tests.test_interface import FUNCTIONS

ROW = tuple(range(15, -1, -1))
LOT = ((0, 1), (1, 0), (2, 0), (0, 3), (3, 2))
RING = ((1, 0), (2, 1), (0, 2))
LOADS = (5, 0, 3, 1, 9, 9, 2, 4, 4, 4, 7, 1, 0, 10 ** 30, 2, 3)
WEIGHTS = counts.Counts.ones(many_lines()) + counts.Counts([(0, 15, 3), (13, 1, 2)])
MIX = mixes.Mix(6, (((1, 0, 2), 3), ((0, 1, 2), 2)))
TOLLS = counts.Counts([(0, 15, 3), (15, 0, 2), (13, 1, 2), (1, 13, 9), (3, 14, 4), (14, 2, 1), (1, 0, 8)])
ONES = costs.tight_ones(ORDER)
FAMILY = families.Family(3, ((0, 1), (0, 2), (1, 2), ()))
PARTS = (chain(2), antichain(2), chain(1), chain(1))
INNER = (counts.Counts(((1, 0, 2),)), counts.Counts(((0, 1, 1), (1, 0, 3))), counts.Counts(), counts.Counts())
MIX_OF_TWO = mixes.Mix(2, (((0, 1), 1), ((1, 0), 4)))
LINES = mixes.Mix(3, (((0, 1, 2, 3), 2), ((1, 3, 0, 2), 5)))
NODE = series.Above(series.Leaf(), series.Beside(series.Leaf(), series.Leaf(), over=2, back=1), toll=4)
NOTES = unseen.Notes(ONES, ONES + counts.Counts(((2, 3, 2), (1, 0, 1))))
DESK = desks.Desk(ORDER, tolls=ONES, weights=ONES)
AT_POINTS = counts.Counts(((0, 2, 1), (1, 1, 2), (2, 0, 3), (1, 3, 1)))

CALLS = (
    (numbers.is_int, (4,)),
    (numbers.check_number, (4, "size", 1, None)),
    (numbers.lowest, (4, -6)),
    (numbers.add_up, ((1, 2), (1, 3))),
    (numbers.greater_of, ((1, 2), (1, 3))),
    (numbers.is_at_most, ((1, 2), (1, 3))),
    (numbers.scaled, ((1, 2), 6)),
    (places.all_places, (4,)),
    (places.place_of, (3, 4, "x")),
    (places.places_of, ((3, 0, 2), 4)),
    (orders.Order, (4, ((0, 2), (1, 2), (1, 3)))),
    (ORDER.on, ((3, 1, 0),)),
    (ORDER.next_steps, ()),
    (shapes.chain, (5,)),
    (shapes.antichain, (5,)),
    (shapes.standard, (5,)),
    (shapes.crown, (5,)),
    (shapes.bent, ()),
    (shapes.stacked, ((1, 3, 2),)),
    (lines.lines_of, (bent(),)),
    (lines.lower_sets, (five_thousand_lower_sets(),)),
    (lines.count_lines, (many_lines(),)),
    (lines.row_of, (ROW, 16)),
    (lines.line_of, (ORDER, (1, 3, 0, 2))),
    (lines.is_line, (ORDER, (1, 3, 2, 0))),
    (lines.cut_down, (ROW, (4, 9, 1))),
    (lines.carried_on, (ORDER, (3, 0), (3, 0))),
    (lines.carried_on, (many_lines(), (0, 5, 15), (15, 5, 0))),
    (swaps.unlike_couples, (ROW, tuple(range(16)))),
    (swaps.swap_path, (antichain(16), ROW, tuple(range(16)))),
    (ties.tied, (ORDER, (0, 3), (2, 3))),
    (ties.single_ties, (crown(5, reach=2),)),
    (ties.tie_path, (antichain(6), bent())),
    (ties.untied, (chain(5), 2, 3)),
    (texts.order_text, (bent(),)),
    (texts.order_from, ("order 3\n1 < 2\n",)),
    (pairs.pair_in, (ORDER, (1, 0))),
    (pairs.lot_of, (ORDER, LOT)),
    (pairs.all_pairs, (ORDER,)),
    (pairs.open_pairs, (ORDER,)),
    (pairs.sure_pairs, (ORDER,)),
    (pairs.against, (ORDER, (1, 0), (0, 1))),
    (pairs.pairs_against, (ORDER, (0, 3))),
    (pairs.is_quiet, (ORDER, LOT)),
    (leading.leads, (ORDER, (1, 0), (3, 0))),
    (leading.led_by, (ORDER, (1, 0))),
    (leading.tight_pairs, (ORDER,)),
    (leading.is_tight, (ORDER, (1, 0))),
    (leading.tight_for, (ORDER, (3, 0))),
    (turning.turns, (ROW, (3, 7))),
    (turning.Turner(ORDER), ((1, 3, 0, 2),)),
    (turning.line_for, (ORDER, LOT[1:3])),
    (turning.line_for, (many_lines(), ((0, 15), (13, 2)))),
    (rings.is_ring, (antichain(3), RING, RING)),
    (rings.ring_in, (ORDER, LOT)),
    (rings.ring_in, (many_lines(), pairs.all_pairs(many_lines()))),
    (rings.least_rings, (ORDER, LOT)),
    (rings.is_turnable, (ORDER, LOT)),
    (rings.ring_around, (antichain(16), ROW)),
    (lots.greatest_lots, (ORDER, LOT)),
    (lots.least_meetings, (ORDER, LOT)),
    (lots.most_at_once, (ORDER, LOT)),
    (lots.standard_from, (standard(3), ((2, 5), (0, 3), (1, 4)))),
    (lots.most_against, (standard(6),)),
    (chains.heaviest, (many_lines(), LOADS)),
    (chains.loaded_cover, (many_lines(), LOADS)),
    (chains.width, (many_lines(),)),
    (chains.widest, (crown(8, reach=3),)),
    (chains.chain_cover, (crown(8, reach=3),)),
    (chains.is_a_chain, (ORDER, (2, 0))),
    (chains.is_an_antichain, (ORDER, (3, 2))),
    (chains.low_line, (many_lines(), (1, 0))),
    (chains.high_line, (many_lines(), (1, 0))),
    (chains.both_line, (many_lines(), (1, 0), (15, 13))),
    (counts.Counts, (((1, 0, 2), (0, 1, 3)),)),
    (counts.Counts.at, (LOT,)),
    (counts.Counts.ones, (ORDER,)),
    (WEIGHTS.with_count, (0, 1, 7)),
    (counts.check_fit, (many_lines(), WEIGHTS)),
    (counts.kept_on, (chain(16), WEIGHTS)),
    (mixes.Mix, (6, (((1, 0, 2), 3), ((0, 1, 2), 2)))),
    (MIX.share, (1, 0)),
    (MIX.number_of, ((1, 0, 2),)),
    (papers.Paper, (3, WEIGHTS)),
    (papers.Paper(3, WEIGHTS).value_at, (WEIGHTS,)),
    (papers.Paper(3, WEIGHTS).holds_in_order, (many_lines(),)),
    (worths.worth, (many_lines(), WEIGHTS)),
    (worths.richest, (many_lines(), WEIGHTS)),
    (costs.cost, (many_lines(), TOLLS)),
    (costs.best_mix, (many_lines(), TOLLS)),
    (costs.best_paper, (many_lines(), TOLLS)),
    (costs.tight_ones, (bent(),)),
    (costs.full_cost, (bent(),)),
    (splits.couple_costs, (many_lines(), TOLLS, 0, 15)),
    (splits.split_mix, (MIX, 0, 1)),
    (splits.split_tolls, (many_lines(), TOLLS, 0, 15)),
    (moving.falls, (ORDER, ONES)),
    (moving.moved, (ORDER, ONES, (0, 1), (0, 3))),
    (moving.moved_down, (many_lines(), TOLLS)),
    (endless.tolls_against, (many_lines(), TOLLS, (0, 15))),
    (endless.beyond, (many_lines(), TOLLS, (0, 15))),
    (endless.endless, (many_lines(), TOLLS, (0, 15))),
    (games.game_value, (many_lines(), TOLLS)),
    (games.line_side, (many_lines(), TOLLS)),
    (games.pair_side, (many_lines(), TOLLS)),
    (wholes.whole_lines, (ORDER, ONES * 3)),
    (wholes.whole_cost, (ORDER, ONES * 3)),
    (wholes.dimension, (bent(),)),
    (rowing.row_turns, (ORDER, (2, 1, 0, 3))),
    (rowing.row_turns_back, (ORDER, (2, 1, 0, 3))),
    (rowing.line_of_row, (ORDER, (2, 1, 0, 3))),
    (rowing.chosen_turns, (ORDER, (2, 0, 3), (3, 2, 0))),
    (rowing.row_cost, (antichain(16), TOLLS)),
    (rowing.row_worth, (antichain(16), TOLLS)),
    (families.Family, (3, ((0, 1), (2,), ()))),
    (FAMILY.point_pairs, ()),
    (FAMILY.lot_number, ((2, 0),)),
    (FAMILY.row_pairs, ((2, 0, 1),)),
    (families.family_cost, (FAMILY, AT_POINTS)),
    (families.family_mix, (FAMILY, AT_POINTS)),
    (families.family_worth, (FAMILY, AT_POINTS)),
    (families.order_of, (FAMILY,)),
    (families.family_counts, (FAMILY, AT_POINTS)),
    (families.table_of, (many_lines(), TOLLS)),
    (rates.rate_tolls, (FAMILY, ((0, 2), (2, 3)), (3, 1, 2))),
    (rates.rate_bound, (FAMILY, AT_POINTS, (3, 1, 2))),
    (rates.lot_bound, (bent(),)),
    (circles.circles_in, (FAMILY, FAMILY.point_pairs())),
    (circles.circle_counts, (FAMILY, (2, 0, 1))),
    (circles.is_level, (FAMILY, AT_POINTS)),
    (circles.level_parts, (FAMILY, AT_POINTS)),
    (circles.standard_in, (standard(4),)),
    (tworows.two_rows, (ORDER,)),
    (tworows.two_row_counts, (ORDER, ONES)),
    (filling.closed_sets, (ORDER,)),
    (filling.filled_in, (ORDER,)),
    (filling.place_in, (ORDER, 2)),
    (filling.fills, (ORDER, (3, 1, 0))),
    (filling.needed_places, (bent(),)),
    (putting.put_in, (ORDER, PARTS)),
    (putting.part_place, (PARTS, 1, 1)),
    (putting.parts_at, (PARTS, 4)),
    (putting.cross_counts, (ORDER, PARTS, ONES)),
    (putting.inner_counts, (PARTS, 1, INNER[1])),
    (putting.put_cost, (ORDER, ONES, PARTS, INNER)),
    (putting.spread_counts, (ORDER, PARTS, ONES, ((1, 2), (0, 3), (4,), (1,)))),
    (putting.put_worth, (ORDER, PARTS, ONES, ((1, 2), (0, 3), (4,), (1,)), INNER)),
    (putting.inner_mix, (ORDER, PARTS, LINES, (mixes.Mix(2, ()), MIX_OF_TWO, mixes.Mix(1, ()), mixes.Mix(1, ())))),
    (NODE.series_order, ()),
    (NODE.series_tolls, ()),
    (NODE.series_cost, ()),
    (NODE.words, ()),
    (series.series_lines, (NODE,)),
    (series.is_series, (ORDER,)),
    (products.multiplied, (chain(2), antichain(3))),
    (products.ends_of, (chain(4),)),
    (products.end_counts, (chain(2), chain(3), counts.Counts(((1, 0, 3),)), counts.Counts(((2, 1, 4),)))),
    (products.first_line, (ORDER, chain(2), (1, 3, 0, 2), (0, 1))),
    (products.second_line, (ORDER, chain(2), (1, 3, 0, 2), (0, 1))),
    (products.product_mix, (ORDER, antichain(2), LINES, MIX_OF_TWO)),
    (products.with_ends, (ORDER,)),
    (products.end_sort, (chain(2), chain(2), (0, 2, 1, 3))),
    (commons.common_steps, (ORDER, chain(4))),
    (commons.common_mix, (ORDER, antichain(4), LINES, LINES)),
    (commons.common_bound, (ORDER, ONES, antichain(4), ONES)),
    (commons.flipped, (TOLLS,)),
    (onemore.without, (ORDER, (3, 0))),
    (onemore.tolls_without, (ORDER, ONES, (2,))),
    (onemore.tolls_at, (ORDER, ONES, 3)),
    (onemore.up_line, (ORDER, 2, (0, 1, 2))),
    (onemore.down_line, (ORDER, 2, (0, 1, 2))),
    (onemore.place_mix, (ORDER, ONES, 3, MIX)),
    (onemore.place_bound, (ORDER, ONES, 3)),
    (onemore.chain_bound, (ORDER, ONES, (2, 0))),
    (onemore.couple_bound, (ORDER, ONES, 0, 3)),
    (onemore.couple_line, (ORDER, 0, 3)),
    (widths.load_bound, (many_lines(), TOLLS)),
    (widths.load_mix, (many_lines(), TOLLS)),
    (widths.tops_bound, (bent(),)),
    (widths.number_bound, (bent(),)),
    (widths.half_bound, (bent(),)),
    (widths.best_bound, (bent(),)),
    (widths.clear_two, (ORDER, 1, 2)),
    (widths.is_standard, (bent(),)),
    (widths.is_bent, (bent(),)),
    (tying.tie_lines, (ORDER, 0, 3, (1, 3, 0, 2))),
    (tying.tie_mix, (ORDER, 0, 3, LINES)),
    (tying.tie_ends, (many_lines(), TOLLS, 0, 15)),
    (tying.both_ties, (many_lines(), TOLLS, 0, 15)),
    (tying.untied_bound, (ORDER, ONES, 1, 3)),
    (walking.tie_walk, (ORDER, ONES)),
    (walking.place_walk, (ORDER,)),
    (shares.share_of, (ORDER, ONES, LOT)),
    (shares.dearest_ring, (many_lines(), TOLLS)),
    (shares.ring_cost, (many_lines(), TOLLS)),
    (calms.corners, (antichain(3), RING)),
    (calms.is_calm, (standard(3), ((2, 5), (0, 3), (1, 4)))),
    (calms.breaking_tolls, (standard(3), ((2, 5), (0, 3), (1, 4)))),
    (calms.whole_corners, (ORDER, LOT)),
    (twochains.dearest_couple, (many_lines(), TOLLS)),
    (twochains.richest_quiet, (many_lines(), TOLLS)),
    (quiets.quiet_cost, (many_lines(), TOLLS)),
    (quiets.quiet_paper, (many_lines(), TOLLS)),
    (quiets.loud_quiet, (antichain(3), RING)),
    (evens.is_clear, (ORDER, (1, 3, 0, 2))),
    (evens.mate, (ORDER, (1, 3, 0, 2))),
    (evens.clear_line, (many_lines(),)),
    (evens.even_mix, (ORDER,)),
    (evens.is_even, (ORDER, LINES)),
    (evens.even_place, (ORDER, 1)),
    (odds.odd_round, (bent(),)),
    (odds.odd_bound, (bent(),)),
    (crowns.crown_pairs, (5,)),
    (crowns.crown_most, (20,)),
    (crowns.crown_cost, (5,)),
    (crowns.crown_line, (5,)),
    (crowns.crown_mix, (5,)),
    (crowns.crown_level_counts, (5, (3,))),
    (valuing.is_value, ((6, 3),)),
    (valuing.crown_for, ((8, 3),)),
    (pointlots.lots_of_size, (5, 2)),
    (pointlots.graph_family, (4, ((1, 0), (2, 3)))),
    (pointlots.ones_at, (FAMILY,)),
    (pointlots.family_bound, (FAMILY,)),
    (pointlots.full_circle, (FAMILY,)),
    (separates.separate_steps, (many_lines(),)),
    (separates.cut_lot, (ORDER, (3, 0))),
    (separates.cut_line, (ORDER, (3, 0))),
    (separates.cut_cost, (many_lines(), TOLLS)),
    (separates.cut_paper, (many_lines(), TOLLS)),
    (separates.cut_worth, (many_lines(), TOLLS)),
    (separates.cut_share, (5,)),
    (levels.beside_step, (ORDER,)),
    (levels.levels_of, (shapes.stacked((1, 3, 2)),)),
    (levels.level_cost, (antichain(4), ONES)),
    (levels.is_forest, (ORDER,)),
    (levels.tree_line, (many_lines(),)),
    (bests.is_best_mix, (ORDER, ONES, LINES)),
    (bests.is_best_paper, (ORDER, ONES, papers.Paper(1, ONES))),
    (bests.least_fullness, (ORDER, ONES, (1, 3, 0, 2))),
    (bests.in_best, (ORDER, ONES, (1, 3, 0, 2))),
    (bests.met_just, (ORDER, ONES, (0, 3))),
    (bests.halfway, (LINES, LINES)),
    (rises.cost_at, (ORDER, ONES, (0, 3), 5)),
    (rises.rise, (many_lines(), TOLLS, (0, 15))),
    (rises.drop, (many_lines(), TOLLS, (0, 15))),
    (rises.greatest_share, (many_lines(), TOLLS, (0, 15))),
    (rises.least_share, (many_lines(), TOLLS, (0, 15))),
    (rises.critical_toll, (many_lines(), TOLLS, (0, 15))),
    (rises.share_mix, (many_lines(), TOLLS, (0, 15))),
    (means.mean_place, (MIX, 1)),
    (means.mean_mix, (many_lines(), TOLLS, 3)),
    (means.mean_ends, (many_lines(), TOLLS, 3)),
    (symmetries.renamings, (ORDER,)),
    (symmetries.renamed_counts, (ONES, (1, 0, 3, 2))),
    (symmetries.renamed_mix, (LINES, (1, 0, 3, 2))),
    (symmetries.keeping, (many_lines(), TOLLS)),
    (symmetries.averaged, (ORDER, ONES, LINES)),
    (symmetries.averaged_paper, (ORDER, ONES, papers.Paper(3, ONES))),
    (symmetries.are_exchangeable, (ORDER, LOT)),
    (symmetries.exchanged_cost, (crown(4, reach=1),)),
    (many.whole_many, (ORDER, ONES, 3)),
    (many.least_times, (ORDER, ONES)),
    (many.greedy_bound, (bent(),)),
    (between.cost_ends, (antichain(4), ORDER, ONES)),
    (between.worth_ends, (antichain(4), ORDER, ONES)),
    (between.is_settled, (antichain(4), ORDER, ONES)),
    (between.orders_between, (antichain(4), ORDER)),
    (between.three_worlds, (ORDER, ONES, 0, 3)),
    (unseen.Notes, (ONES, ONES)),
    (NOTES.agrees, (ONES,)),
    (NOTES.is_seen, (0, 3)),
    (NOTES.unseen_pairs, ()),
    (NOTES.with_seen, (2, 3, 1)),
    (NOTES.corner_counts, (((2, 3), (1, 0)),)),
    (unseen.cost_stretch, (ORDER, NOTES)),
    (unseen.tolls_costing, (ORDER, NOTES, (5, 2))),
    (unseen.best_everywhere, (ORDER, papers.Paper(1, ONES), NOTES)),
    (unseen.line_regret, (ORDER, (1, 3, 0, 2), NOTES)),
    (unseen.richest_everywhere, (ORDER, NOTES)),
    (DESK.cost_now, ()),
    (DESK.worth_now, ()),
    (DESK.full_now, ()),
    (DESK.mix_now, ()),
    (DESK.paper_now, ()),
    (DESK.whole_now, ()),
    (DESK.tight_now, ()),
    (DESK.is_even_now, ()),
    (DESK.bounds_now, ()),
    (DESK.trial, (("turn",), ("put_place", (1,), ()), ("put_part", 0, chain(2)), ("back",))),
    (listings.count_line, (3, 12, 10 ** 30)),
    (listings.listing, (DESK,)),
)

# A fraction is told by a tuple only.
TUPLES = (numbers.add_up, numbers.greater_of, numbers.is_at_most, numbers.scaled, valuing.is_value, valuing.crown_for,
          unseen.tolls_costing)


class RepeatsTest(Case):
    def test_each_function_of_the_interface_is_called(self):
        called = {(call.__module__, getattr(call, "__name__", None)) for call, _ in CALLS}
        for name, functions in FUNCTIONS.items():
            for told in functions:
                # A generator is another one each time; tests/test_lines.py looks at it.
                if told != "each_line(order)":
                    self.assertIn((f"linemix.{name}", told.partition("(")[0]), called)

    def test_lists_and_tuples(self):
        for call, args in CALLS:
            answer = self.told(call, *args)
            self.assertEqual(self.told(call, *(args if call in TUPLES else as_lists(args))), answer)
            self.assertEqual(call(*args), answer)

    def test_equal_counts_and_orders_made_otherwise(self):
        order = many_lines()
        same = Order(16, order.next_steps()[::-1])
        weights = counts.Counts(list(WEIGHTS)[::-1] + [(3, 3, 0)])
        tolls = counts.Counts(list(TOLLS)[::-1] + [(3, 3, 0)])
        for call in (costs.best_mix, costs.best_paper, games.line_side, families.table_of, rowing.row_worth):
            self.assertEqual(call(same, tolls), call(order, TOLLS))
        self.assertEqual(splits.split_tolls(same, tolls, 0, 15), splits.split_tolls(order, TOLLS, 0, 15))
        self.assertEqual(worths.richest(same, weights), worths.richest(order, WEIGHTS))
        self.assertEqual(chains.heaviest(same, LOADS), chains.heaviest(order, LOADS))
        self.assertEqual(chains.loaded_cover(same, LOADS), chains.loaded_cover(order, LOADS))
        lot = pairs.all_pairs(order)
        self.assertEqual(rings.ring_in(same, lot[::-1]), rings.ring_in(order, lot))
        self.assertEqual(turning.line_for(same, [(13, 2), (0, 15)]), turning.line_for(order, [(0, 15), (13, 2)]))
        self.assertEqual(chains.low_line(same, (0, 1)), chains.low_line(order, (1, 0)))

    def test_equal_orders_made_otherwise(self):
        for order in (ORDER, bent(), crown(4, reach=1), many_lines()):
            same = Order(order.size, order.next_steps()[::-1])
            for call in (ties.single_ties, texts.order_text, lines.count_lines, lines.lower_sets):
                self.assertEqual(call(same), call(order))
            self.assertEqual(lines.lines_of(same, first=50), lines.lines_of(order, first=50))

    def test_returned_lists_are_the_callers_own(self):
        for call, args in CALLS:
            answer = call(*args)
            if isinstance(answer, list):
                kept = list(answer)
                answer.clear()
                self.assertEqual(call(*args), kept)


if __name__ == "__main__":
    unittest.main()
