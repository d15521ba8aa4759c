"""What holds between the functions of section 2: [16] to [29], over all orders of up to four places and some more."""

import unittest
from itertools import combinations, permutations, product

from linemix.chains import (
    both_line, chain_cover, heaviest, high_line, is_a_chain, is_an_antichain, loaded_cover, low_line, widest, width,
)
from linemix.leading import is_tight, led_by, leads, tight_for, tight_pairs
from linemix.lines import lines_of
from linemix.lots import greatest_lots, least_meetings, most_against, most_at_once, standard_from
from linemix.pairs import against, all_pairs, is_quiet, open_pairs, pairs_against, sure_pairs
from linemix.rings import is_ring, is_turnable, least_rings, ring_around, ring_in
from linemix.shapes import antichain, bent, chain, crown, standard
from linemix.ties import single_ties, tied
from linemix.turning import Turner, line_for, turns
from tests.support import (
    Case, is_turned, lots_within, many_lines, plain_least_rings, plain_pairs, small_orders, some_lots, some_orders,
    turned_by, turned_sets,
)

GREATER = some_orders(6, 5, 6) + [bent(), standard(3)]


def sets_of(order, least=0):
    return [chosen for many in range(least, order.size + 1) for chosen in combinations(range(order.size), many)]


def antichains(order, least=0):
    return [chosen for chosen in sets_of(order, least) if is_an_antichain(order, chosen)]


def turned_over(lot):
    return tuple(sorted((y, x) for x, y in lot))


class PairsTest(Case):
    """[16] Pairs and [17] Against."""

    def test_open_and_sure_pairs(self):
        for order in small_orders() + GREATER:
            self.assertEqual(sorted(open_pairs(order) + sure_pairs(order)), list(all_pairs(order)))
            self.assertEqual(set(all_pairs(order)), set(plain_pairs(order)))
            for x, y in open_pairs(order):
                self.assertTrue(order.are_open(x, y))
            self.assertEqual(sure_pairs(order), turned_over(order.steps_told()))

    def test_what_lines_turn(self):
        for order in small_orders() + GREATER:
            turner = Turner(order)
            for line in lines_of(order, first=200):
                lot = turner(line)
                self.assertEqual(len(lot), len(open_pairs(order)) // 2)
                self.assertTrue(all(turns(line, pair) for pair in sure_pairs(order)))
                for x, y in open_pairs(order):
                    self.assertIs((x, y) in lot, turns(line, (x, y)))
                    self.assertNotEqual((x, y) in lot, (y, x) in lot)

    def test_against(self):
        for order in small_orders() + GREATER:
            sets = turned_sets(order)
            for pair, other in product(all_pairs(order), repeat=2):
                rivals = against(order, pair, other)
                self.assertEqual(rivals, against(order, other, pair))
                self.assertEqual(rivals, not is_turned((pair, other), sets))
                self.assertEqual(rivals, other in pairs_against(order, pair))
                if pair in sure_pairs(order) or pair == other:
                    self.assertFalse(rivals)
            for x, y in open_pairs(order):
                self.assertTrue(against(order, (x, y), (y, x)))

    def test_quiet_lots(self):
        for order in small_orders()[::4] + GREATER[:3]:
            for lot in lots_within(all_pairs(order), 2) + some_lots(order, 20, 5):
                rings = least_rings(order, lot)
                self.assertEqual(is_quiet(order, lot), not any(len(ring) == 2 for ring in rings))
                if is_turnable(order, lot):
                    self.assertTrue(is_quiet(order, lot))


class RingsTest(Case):
    """[18] Rings, [19] Turnable lots, [20] Least rings and [21] A ring of each size."""

    def test_turnable_without_rings(self):
        for order in small_orders()[::3]:
            for lot in lots_within(all_pairs(order), 3) + some_lots(order, 3, 5):
                rings = [row for many in range(len(lot) + 1) for row in permutations(lot, many)
                         if is_ring(order, lot, row)]
                self.assertEqual(is_turnable(order, lot), not rings)
                self.assertEqual(line_for(order, lot) is None, bool(rings))
                self.assertEqual(ring_in(order, lot) is None, not rings)
                if rings:
                    self.assertIn(ring_in(order, lot), rings)

    def test_all_lots_of_three_pairs_by_all_lines(self):
        for order in small_orders():
            sets = turned_sets(order)
            for lot in lots_within(all_pairs(order), 3):
                rings = least_rings(order, lot)
                turnable = is_turned(lot, sets)
                self.assertEqual(rings, plain_least_rings(lot, sets))
                self.assertEqual((is_turnable(order, lot), ring_in(order, lot) is None), (turnable, turnable))
                self.assertIs(bool(rings), not turnable)
                if turnable:
                    self.assertLessEqual(set(lot), turned_by(line_for(order, lot)))

    def test_least_rings(self):
        for order in small_orders() + [antichain(5), standard(3), bent()]:
            lots = [all_pairs(order)] if order.size < 5 else some_lots(order, 10, 12)
            for ring in [ring for lot in lots for ring in least_rings(order, lot)]:
                self.least_ring(order, ring)

    def least_ring(self, order, ring):
        rows = [(ring[0],) + row for row in permutations(ring[1:]) if is_ring(order, ring, (ring[0],) + row)]
        self.assertEqual(len(rows), 1)
        row = rows[0]
        for at, (x, _) in enumerate(row):
            over = [y for _, y in row if order.is_under(x, y)]
            self.assertEqual(over, [row[(at + 1) % len(row)][1]])
        for places in ([x for x, _ in row], [y for _, y in row]):
            self.assertEqual(len(set(places)), len(row))
            self.assertTrue(is_an_antichain(order, places))
        self.assertLessEqual(len(row), width(order))
        self.assertFalse(set(row) & set(sure_pairs(order)))
        found = ring_in(order, ring)
        at = found.index(row[0])
        self.assertEqual(found[at:] + found[:at], row)

    def test_rings_of_each_size(self):
        for order in small_orders():
            sizes = {len(ring) for ring in least_rings(order, all_pairs(order))}
            self.assertEqual(sizes, set(range(2, width(order) + 1)))

    def test_rings_around_antichains(self):
        for order in small_orders() + GREATER + [crown(4, reach=1)]:
            for chosen in antichains(order, 2):
                ring = ring_around(order, chosen)
                self.assertTrue(is_ring(order, ring, ring))
                self.assertFalse(is_turnable(order, ring))
                self.assertEqual(least_rings(order, ring), [tuple(sorted(ring))])
                for at in range(len(ring)):
                    self.assertTrue(is_turnable(order, ring[:at] + ring[at + 1:]))


class LeadingTest(Case):
    """[22] Leading, [23] Tight pairs and [24] Pairs of a tied order."""

    def test_lines_turn_what_a_pair_leads_to(self):
        for order in small_orders() + GREATER:
            sets = turned_sets(order)
            for pair in all_pairs(order):
                led = led_by(order, pair)
                for turned in sets:
                    if pair in turned:
                        self.assertLessEqual(set(led), turned)
                for other in all_pairs(order):
                    self.assertIs(leads(order, pair, other), other in led)
                    if other in led and other in open_pairs(order):
                        self.assertIn(pair, open_pairs(order))

    def test_tight_pairs(self):
        for order in small_orders() + GREATER + some_orders(5, 7, 12):
            tight = tight_pairs(order)
            self.assertEqual(tight, single_ties(order))
            self.assertEqual(not tight, order.is_chain())
            for x, y in open_pairs(order):
                below = set(order.below(x)) <= set(order.below(y))
                above = set(order.above(y)) <= set(order.above(x))
                leading = [other for other in open_pairs(order) if leads(order, other, (x, y))]
                self.assertEqual(is_tight(order, (x, y)), below and above)
                self.assertEqual(is_tight(order, (x, y)), not leading)
                self.assertEqual(is_tight(order, (x, y)), len(list(tied(order, (x, y)))) == len(list(order)) + 1)
                if leading:
                    self.assertTrue(leads(order, tight_for(order, (x, y)), (x, y)))
                self.assertIn(tight_for(order, (x, y)), tight)
            for pair in sure_pairs(order):
                self.assertEqual((is_tight(order, pair), tight_for(order, pair)), (False, None))

    def test_pairs_of_a_tied_order(self):
        for order in small_orders() + GREATER:
            pairs = all_pairs(order)
            for u, v in open_pairs(order):
                more = tied(order, (u, v))
                rivals = pairs_against(order, (v, u))
                self.assertEqual(set(all_pairs(more)), set(pairs) - set(rivals))
                lost = {(x, y) for x, y in pairs if order.is_under(x, u) and order.is_under(v, y)}
                self.assertEqual(lost, set(rivals))
                self.assertIn((v, u), sure_pairs(more))
                if is_tight(order, (u, v)):
                    self.assertEqual(set(pairs) - set(all_pairs(more)), {(u, v)})


class PairwiseTest(Case):
    """[25] Pairwise against."""

    def test_lots_of_three_and_more(self):
        for order in [standard(3), standard(4), bent(), crown(4, reach=1)] + some_orders(3, 6, 7):
            for many in (3, 4):
                for lot in combinations(open_pairs(order), many) if many == 3 else some_lots(order, 200, 4):
                    self.lot(order, lot)

    def lot(self, order, lot):
        pairwise = len(lot) >= 3 and all(against(order, *couple) for couple in combinations(lot, 2))
        told = standard_from(order, lot)
        self.assertEqual(told is not None, pairwise)
        if pairwise:
            xs, ys = told
            self.assertEqual((list(zip(xs, ys)), len(set(xs + ys))), (sorted(lot), 2 * len(lot)))
            steps = {(xs[i], ys[j]) for i, j in permutations(range(len(lot)), 2)}
            self.assertEqual({step for step in order if set(step) <= set(xs + ys)}, steps)

    def test_places_with_these_steps(self):
        made = standard(3)
        for order in some_orders(6, 6, 6) + [standard(3), ~standard(3), bent()]:
            for row in permutations(range(6)):
                if {(a, b) for a, b in permutations(range(6), 2) if order.is_below(row[a], row[b])} == set(made):
                    lot = [(row[i], row[3 + i]) for i in range(3)]
                    self.assertTrue(all(against(order, *couple) for couple in combinations(lot, 2)))

    def test_most_of_them(self):
        for many in range(2, 9):
            self.assertEqual(len(most_against(standard(many))), many)


class ChainsTest(Case):
    """[26] Chains."""

    def test_lines_for_chains(self):
        for order in small_orders() + GREATER:
            for chosen in sets_of(order):
                if is_a_chain(order, chosen):
                    over = [(x, c) for x, c in all_pairs(order) if c in chosen]
                    under = [(c, y) for c, y in all_pairs(order) if c in chosen]
                    self.assertTrue(all(turns(low_line(order, chosen), pair) for pair in over))
                    self.assertTrue(all(turns(high_line(order, chosen), pair) for pair in under))

    def test_two_chains(self):
        for order in small_orders()[::3] + some_orders(3, 5, 5):
            pairs = all_pairs(order)
            chosen_ones = [chosen for chosen in sets_of(order) if is_a_chain(order, chosen)]
            for chosen, others in product(chosen_ones, repeat=2):
                over = [(x, c) for x, c in pairs if c in chosen]
                under = [(c, y) for c, y in pairs if c in others]
                rivals = any(against(order, pair, other) for pair in over for other in under)
                line = both_line(order, chosen, others)
                self.assertEqual(line is None, rivals)
                if line is not None:
                    self.assertLessEqual(set(over + under), turned_by(line))


class LotsTest(Case):
    """[27] Greatest lots."""

    def test_meetings(self):
        for order in small_orders() + GREATER:
            lots = [all_pairs(order)] if order.size < 5 else []
            for lot in lots + some_lots(order, 3, 10):
                meetings = least_meetings(order, lot)
                rings = least_rings(order, lot)
                for meeting in meetings:
                    self.assertTrue(all(set(meeting) & set(ring) for ring in rings))
                    for less in combinations(meeting, max(len(meeting) - 1, 0)):
                        self.assertFalse(meeting and all(set(less) & set(ring) for ring in rings))
                if not rings:
                    self.assertEqual(meetings, [()])
                left = sorted(tuple(pair for pair in lot if pair not in meeting) for meeting in meetings)
                self.assertEqual(greatest_lots(order, lot), left)
                self.assertEqual(most_at_once(order, lot), len(lot) - min(len(meeting) for meeting in meetings))

    def test_by_all_lines(self):
        for order in small_orders() + GREATER:
            sets = turned_sets(order)
            for lot in some_lots(order, 4, 12):
                greatest = greatest_lots(order, lot)
                self.assertEqual(most_at_once(order, lot), max(len(turned & set(lot)) for turned in sets))
                for part in greatest:
                    self.assertTrue(is_turned(part, sets))
                    self.assertFalse(any(is_turned(part + (pair,), sets) for pair in lot if pair not in part))


class WidthTest(Case):
    """[28] Width and loads."""

    def test_chains_through_greatest_antichains(self):
        for order in small_orders() + GREATER:
            cover = chain_cover(order)
            self.assertEqual(len(cover), width(order))
            for chosen in antichains(order):
                self.assertLessEqual(len(chosen), width(order))
                if len(chosen) == width(order):
                    self.assertTrue(all(len(set(chosen) & set(part)) == 1 for part in cover))
            self.assertIn(widest(order), antichains(order))

    def test_loads(self):
        for order in small_orders()[::2] + GREATER:
            loads = [(3 * place * place + order.size) % 7 for place in range(order.size)]
            number, chosen = heaviest(order, loads)
            self.assertEqual(sum(loads[place] for place in chosen), number)
            for other in antichains(order):
                self.assertLessEqual(sum(loads[place] for place in other), number)
            self.assertEqual(sum(many for _, many in loaded_cover(order, loads)), number)
            self.assertEqual(heaviest(order, [1] * order.size)[0], width(order))

    def test_many_lines(self):
        order = many_lines()
        self.assertEqual((width(order), len(chain_cover(order)), len(widest(order))), (7, 7, 7))


class OtherOrdersTest(Case):
    """[29] Sub-orders and upside down."""

    def test_sub_orders(self):
        for order in small_orders()[::2] + GREATER[:4]:
            for chosen in sets_of(order, 1):
                sub = order.on(chosen)
                inner = [pair for pair in all_pairs(order) if set(pair) <= set(chosen)]
                renumbered = {pair: (chosen.index(pair[0]), chosen.index(pair[1])) for pair in inner}
                self.assertEqual(sorted(renumbered.values()), list(all_pairs(sub)))
                for lot in lots_within(inner, 2) + [tuple(inner[::2]), tuple(inner[1::2])]:
                    self.assertEqual(is_turnable(order, lot), is_turnable(sub, [renumbered[pair] for pair in lot]))

    def test_upside_down(self):
        for order in small_orders() + GREATER + [crown(4, reach=1), chain(16)]:
            down = ~order
            for call in (all_pairs, open_pairs, sure_pairs, tight_pairs):
                self.assertEqual(call(down), turned_over(call(order)))
            for pair in all_pairs(order):
                self.assertEqual(pairs_against(down, pair[::-1]), turned_over(pairs_against(order, pair)))
                self.assertEqual(led_by(down, pair[::-1]), turned_over(led_by(order, pair)))
            for lot in some_lots(order, 5, 8):
                other = turned_over(lot)
                self.assertEqual(is_turnable(down, other), is_turnable(order, lot))
                self.assertEqual(set(map(frozenset, least_rings(down, other))),
                                 {frozenset(turned_over(ring)) for ring in least_rings(order, lot)})
                ring = ring_in(order, lot)
                if ring is not None:
                    back = tuple((y, x) for x, y in ring[::-1])
                    self.assertTrue(is_ring(down, other, back))


if __name__ == "__main__":
    unittest.main()
