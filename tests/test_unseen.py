"""linemix/unseen.py, with [141] to [144]."""

import random
import unittest
from fractions import Fraction
from itertools import product

from linemix.bests import is_best_paper
from linemix.costs import best_paper, cost
from linemix.counts import Counts
from linemix.errors import BadFraction, BadLine, BadNotes, BadNumber, BadPair, BadRow, TooMany, Unfit
from linemix.lines import lines_of
from linemix.numbers import is_at_most
from linemix.pairs import all_pairs, open_pairs
from linemix.papers import Paper
from linemix.shapes import antichain, bent, chain, standard
from linemix.unseen import Notes, best_everywhere, cost_stretch, line_regret, richest_everywhere, tolls_costing
from linemix.worths import worth
from tests.plain_support import told
from tests.support import (
    NO_LISTS, ORDER, CostCase, earned_by, few_counts, five_thousand_lower_sets, many_lines, plain_lines, small_orders,
    some_orders, thousand_lines,
)

BIG = 10 ** 28
ORDERS = [order for order in small_orders()[::8] if order.size > 1] + some_orders(4, 5, 5) + [antichain(3), antichain(4)]


def some_notes(order, many, unseen, most):
    """The same notes on every run that fit the order, with so many unseen pairs or less."""
    dice = random.Random(f"notes {order.size} {order.steps_told()} {many} {unseen} {most}")
    found = []
    for lows in few_counts(order, many, 4, most):
        highs = lows
        for x, y in dice.sample(all_pairs(order), min(unseen, len(all_pairs(order)))):
            highs = highs.with_count(x, y, highs[x, y] + dice.randint(1, most))
        found.append(Notes(lows, highs))
    return found


def agreeing(notes, many):
    """Counts that agree with notes: all corners, and some between."""
    pairs = notes.unseen_pairs()
    dice = random.Random(f"agreeing {list(notes.highs)}")
    found = [notes.corner_counts([pair for pair, chosen in zip(pairs, row) if chosen])
             for row in list(product((0, 1), repeat=len(pairs)))[:64]]
    for _ in range(many):
        counts = notes.lows
        for x, y in pairs:
            counts = counts.with_count(x, y, dice.randint(notes.lows[x, y], notes.highs[x, y]))
        found.append(counts)
    return found


class NotesTest(CostCase):
    def test_by_its_words(self):
        # [141]
        for order in ORDERS:
            for notes in some_notes(order, 3, 3, 4):
                pairs = [(x, y) for x in range(6) for y in range(6)]
                unseen = tuple(pair for pair in pairs if notes.lows[pair] < notes.highs[pair])
                self.gives(unseen, notes.unseen_pairs)
                for x, y in pairs:
                    self.gives((x, y) not in unseen, notes.is_seen, x, y)
                for counts in agreeing(notes, 3):
                    self.gives(True, notes.agrees, counts)
                for x, y in unseen[:2]:
                    self.gives(False, notes.agrees, notes.lows.with_count(x, y, notes.highs[x, y] + 1))
                    self.gives(notes.lows[x, y] == 0, notes.agrees, notes.highs.with_count(x, y, 0))
                for x, y, low in notes.lows:
                    self.gives(False, notes.agrees, notes.highs.with_count(x, y, low - 1))
                self.gives(False, notes.agrees, notes.lows + Counts([(9, 9, 1)]))

    def test_attributes(self):
        lows, highs = Counts([(0, 1, 1)]), Counts([(0, 1, 3), (1, 0, 2)])
        notes = Notes(lows, highs)
        self.assertTrue(notes.lows is lows or notes.lows == lows)
        self.assertEqual((list(notes.lows), list(notes.highs)), ([(0, 1, 1)], [(0, 1, 3), (1, 0, 2)]))
        self.assertEqual(notes.unseen_pairs(), ((0, 1), (1, 0)))
        self.assertEqual(Notes(Counts(), Counts()).unseen_pairs(), ())
        self.assertEqual(Notes(highs, highs).unseen_pairs(), ())
        self.assertTrue(Notes(highs, highs).is_seen(7, 7))

    def test_equal_calls_have_equal_answers(self):
        lows, highs = Counts([(0, 1, 1)]), Counts([(0, 1, 3), (1, 0, 2)])
        self.assertTrue(Notes(lows, highs) == Notes(lows, highs))
        for other in (Notes(lows, lows), Notes(highs, highs), Notes(Counts(), highs), (lows, highs), None):
            self.assertFalse(Notes(lows, highs) == other)
        self.assertEqual(self.told(Notes(lows, highs).with_seen, 0, 1, 2), Notes(lows * 2, highs.with_count(0, 1, 2)))

    def test_low_above_high(self):
        for lows, highs in ((Counts([(0, 1, 2)]), Counts([(0, 1, 1)])), (Counts([(5, 5, 1)]), Counts()),
                            (Counts([(0, 1, BIG + 1)]), Counts([(0, 1, BIG), (1, 0, 1)]))):
            self.fails(BadNotes(0), Notes, lows, highs)

    def test_with_seen(self):
        notes = Notes(Counts([(0, 1, 1), (2, 1, 4)]), Counts([(0, 1, 3), (1, 0, 2), (2, 1, 4)]))
        for number in (1, 2, 3):
            seen = notes.with_seen(0, 1, number)
            self.assertEqual(seen.lows, notes.lows.with_count(0, 1, number))
            self.assertEqual(seen.highs, notes.highs.with_count(0, 1, number))
            self.assertEqual(seen.unseen_pairs(), ((1, 0),))
        self.assertEqual(notes.unseen_pairs(), ((0, 1), (1, 0)))
        self.assertEqual(notes.with_seen(1, 0, 0).unseen_pairs(), ((0, 1),))
        self.assertEqual(notes.with_seen(2, 1, 4).unseen_pairs(), notes.unseen_pairs())
        self.assertEqual(notes.with_seen(9, 9, 0).unseen_pairs(), notes.unseen_pairs())
        for x, y in ((-1, 0), (0, -1), (True, 0), (0, False), (None, 0), (0, "1"), (0, 1.0)):
            self.fails(BadPair(-1), notes.with_seen, x, y, None)
        for x, y, wrong in ((0, 1, 0), (0, 1, 4), (1, 0, 3), (2, 1, 3), (9, 9, 1), (0, 1, True), (0, 1, "2"),
                            (0, 1, None), (0, 1, 2.0), (1, 0, -1)):
            self.fails(BadNumber("number"), notes.with_seen, x, y, wrong)

    def test_corner_counts(self):
        notes = Notes(Counts([(0, 1, 1), (2, 1, 4)]), Counts([(0, 1, 3), (1, 0, 2), (2, 1, 4)]))
        self.gives(notes.lows, notes.corner_counts, ())
        self.gives(notes.highs, notes.corner_counts, [(1, 0), [0, 1]])
        self.gives(Counts([(0, 1, 3), (2, 1, 4)]), notes.corner_counts, ((0, 1),))
        self.gives(notes.lows, notes.corner_counts, [(2, 1), (7, 7)])
        for value in NO_LISTS:
            self.fails(BadPair(-2), notes.corner_counts, value)
        for wrong in (None, 1, "01", (0,), (0, 1, 2), (-1, 0), (True, 0), (0, "1"), [0, 1]):
            self.fails(BadPair(1), notes.corner_counts, [(0, 1), wrong])


class StretchTest(CostCase):
    def test_by_its_words(self):
        # [142]
        for order in ORDERS:
            for notes in some_notes(order, 2, 3, 3) + some_notes(order, 1, 2, BIG):
                least, most = self.gives((cost(order, notes.lows), cost(order, notes.highs)), cost_stretch, order, notes)
                for counts in agreeing(notes, 4):
                    value = cost(order, counts)
                    self.assertTrue(is_at_most(least, value) and is_at_most(value, most))
                more = notes.highs.total_count() - notes.lows.total_count()
                self.assertLessEqual(Fraction(*most), Fraction(*least) + more)
                paper = best_paper(order, notes.lows)
                for counts in agreeing(notes, 2):
                    gain = sum(number * (counts[x, y] - notes.lows[x, y]) for x, y, number in paper)
                    self.assertGreaterEqual(Fraction(*cost(order, counts)),
                                            Fraction(*least) + Fraction(gain, paper.bottom))

    def test_tolls_of_each_cost(self):
        # [142]
        for order in ORDERS:
            for notes in some_notes(order, 2, 3, 3) + some_notes(order, 1, 4, BIG):
                least, most = [Fraction(*value) for value in cost_stretch(order, notes)]
                for part in (0, 1, Fraction(1, 2), Fraction(1, 3), Fraction(6, 7), Fraction(1, 10 ** 9)):
                    self.costing(order, notes, least + part * (most - least))

    def costing(self, order, notes, value):
        counts, factor = self.told(tolls_costing, order, notes, told(value))
        self.assertTrue(type(factor) is int and factor >= 1)
        self.assertTrue(counts.covers_all(notes.lows * factor) and (notes.highs * factor).covers_all(counts))
        self.assertEqual(cost(order, counts), told(value * factor))
        # The fraction need not be in lowest terms.
        top, bottom = told(value)
        self.assertEqual(tolls_costing(order, notes, (6 * top, 6 * bottom)), (counts, factor))

    def test_costs_by_hand(self):
        notes = Notes(Counts([(0, 1, 1)]), Counts([(0, 1, 3), (1, 0, 2)]))
        self.assertEqual(cost_stretch(antichain(2), notes), ((1, 1), (5, 1)))
        counts, factor = tolls_costing(antichain(2), notes, (3, 1))
        self.assertEqual(counts.total_count(), 3 * factor)
        seen = Notes(Counts([(1, 0, 4)]), Counts([(1, 0, 4)]))
        self.gives((Counts([(1, 0, 4)]), 1), tolls_costing, chain(2), seen, (4, 1))
        self.gives((Counts(), 1), tolls_costing, chain(1), Notes(Counts(), Counts()), (0, 7))
        ring = Counts([(1, 0, 1), (2, 1, 1), (0, 2, 1)])
        self.costing(antichain(3), Notes(Counts(), ring), Fraction(3, 2))
        self.costing(antichain(3), Notes(Counts([(1, 0, 1)]), ring), Fraction(4, 3))

    def test_thirty_tolls(self):
        for order in (many_lines(), five_thousand_lower_sets(), antichain(7), standard(6)):
            for highs in few_counts(order, 1, 30, 10 ** 30) + few_counts(order, 1, 30, 2):
                notes = Notes(Counts([row for row in highs][::3]), highs)
                least, most = [Fraction(*value) for value in cost_stretch(order, notes)]
                self.costing(order, notes, (least + 2 * most) / 3)

    def test_refusals_in_their_order(self):
        fit = Counts([(1, 0, 1)])
        unfit = Notes(Counts([(1, 2, 1)]), Counts([(0, 2, 1), (1, 2, 1)]))
        # The lows come ahead of the highs.
        self.fails(Unfit(1, 2), cost_stretch, ORDER, unfit)
        self.fails(Unfit(0, 2), cost_stretch, ORDER, Notes(Counts(), unfit.highs))
        self.fails(Unfit(1, 2), tolls_costing, ORDER, unfit, None)
        self.fails(Unfit(0, 2), tolls_costing, ORDER, Notes(Counts(), unfit.highs), None)
        # Both come ahead of the bounds.
        seven = Counts.at(all_pairs(antichain(7))[:31])
        self.fails(Unfit(6, 6), cost_stretch, antichain(7), Notes(seven, seven + Counts([(6, 6, 1)])))
        self.fails(Unfit(9, 9), tolls_costing, antichain(13), Notes(Counts(), Counts([(9, 9, 1)])), None)
        notes = Notes(fit, fit * 3)
        for wrong in (None, 1, "11", [2, 1], (2,), (2, 1, 1), (2, 0), (2, -1), (True, 1), (2, True), (2.0, 1), ("2", 1),
                      (-2, -1)):
            self.fails(BadFraction("fraction"), tolls_costing, ORDER, notes, wrong)
        for value in ((0, 1), (99, 100), (-2, 1), (301, 100), (4, 1), (3 * BIG + 1, BIG), (BIG - 1, BIG)):
            self.fails(BadFraction("fraction"), tolls_costing, ORDER, notes, value)
        self.told(tolls_costing, ORDER, notes, (BIG, BIG))
        for order, highs in ((antichain(7), Counts.at(all_pairs(antichain(7))[:31])),):
            self.fails(TooMany(30), cost_stretch, order, Notes(Counts(), highs))
            self.fails(BadFraction("fraction"), tolls_costing, order, Notes(Counts(), highs), (1, 0))
            # Outside the stretch is told behind the bounds.
            self.fails(TooMany(30), tolls_costing, order, Notes(Counts(), highs), (-1, 1))
        self.fails(TooMany(5000), cost_stretch, antichain(13), Notes(Counts(), Counts()))
        self.fails(TooMany(5000), tolls_costing, antichain(13), Notes(Counts(), Counts()), (-1, 1))
        self.fails(BadFraction("fraction"), tolls_costing, antichain(13), Notes(Counts(), Counts()), None)


class EverywhereTest(CostCase):
    def test_by_all_corners(self):
        # [143]
        seen = set()
        for order in ORDERS + [bent()]:
            for notes in some_notes(order, 2, 3, 2) + some_notes(order, 1, 5, 3) + some_notes(order, 1, 1, BIG):
                papers = [best_paper(order, notes.lows), best_paper(order, notes.highs),
                          best_paper(order, notes.lows + notes.highs), Paper(1, Counts())]
                papers += [Paper(2, Counts.at(open_pairs(order)[:2]))]
                for paper in papers:
                    wanted = all(is_best_paper(order, counts, paper) for counts in agreeing(notes, 0)
                                 if len(counts) <= 8)
                    self.gives(wanted, best_everywhere, order, paper, notes)
                    seen.add((wanted, len(notes.unseen_pairs()) > 2))
                    if wanted:
                        for counts in agreeing(notes, 4):
                            self.assertEqual(cost(order, counts), paper.value_at(counts))
        self.assertEqual(len(seen), 4)

    def test_by_hand(self):
        ring = Counts([(1, 0, 2), (2, 1, 2), (0, 2, 2)])
        paper = Paper(2, Counts([(1, 0, 1), (2, 1, 1), (0, 2, 1)]))
        for extra, wanted in ((Counts(), True), (Counts([(1, 0, 1)]), True), (Counts([(1, 0, 3)]), False),
                              (Counts([(0, 1, 1)]), True), (Counts([(0, 1, 2)]), False)):
            self.gives(wanted, best_everywhere, antichain(3), paper, Notes(ring, ring + extra))
        self.gives(True, best_everywhere, antichain(3), Paper(1, Counts([(0, 1, 1)])), Notes(Counts(), Counts([(0, 1, 9)])))
        self.gives(False, best_everywhere, antichain(3), Paper(2, Counts([(0, 1, 1)])), Notes(Counts(), Counts([(0, 1, 9)])))
        self.gives(False, best_everywhere, antichain(2), Paper(1, Counts([(0, 1, 2)])), Notes(Counts(), Counts()))
        # Weights at pairs without a toll are let, if the paper holds.
        self.gives(True, best_everywhere, antichain(2), Paper(1, Counts.ones(antichain(2))),
                   Notes(Counts(), Counts([(0, 1, 5), (1, 0, 7)])))

    def test_six_and_seven_unseen_pairs(self):
        order = antichain(4)
        pairs = all_pairs(order)
        for lot in (pairs[:6], pairs[3:9]):
            self.told(best_everywhere, order, Paper(1, Counts()), Notes(Counts(), Counts.at(lot)))
        self.fails(TooMany(6), best_everywhere, order, Paper(1, Counts()), Notes(Counts(), Counts.at(pairs[:7])))
        seen = Counts.at(pairs)
        self.told(best_everywhere, order, Paper(1, Counts()), Notes(seen, seen + Counts.at(pairs[:6])))
        for many in (many_lines(), five_thousand_lower_sets()):
            lows = few_counts(many, 1, 30, 3)[0]
            some = [(x, y) for x, y, _ in lows][:6]
            self.told(best_everywhere, many, best_paper(many, lows), Notes(lows, lows + Counts.at(some)))

    def test_refusals_in_their_order(self):
        fit, unfit = Counts([(1, 0, 1)]), Counts([(0, 2, 1), (1, 2, 1)])
        self.fails(Unfit(0, 2), best_everywhere, ORDER, Paper(1, unfit), Notes(Counts(), Counts([(1, 1, 1)])))
        self.fails(Unfit(1, 2), best_everywhere, ORDER, Paper(1, fit), Notes(Counts([(1, 2, 1)]), unfit))
        self.fails(Unfit(0, 2), best_everywhere, ORDER, Paper(1, fit), Notes(Counts(), unfit))
        order = antichain(7)
        pairs = all_pairs(order)
        self.fails(TooMany(6), best_everywhere, order, Paper(1, fit), Notes(Counts(), Counts.at(pairs[:31])))
        seen = Counts.at(pairs[:31])
        self.fails(TooMany(30), best_everywhere, order, Paper(1, fit), Notes(seen, seen))
        self.fails(TooMany(30), best_everywhere, order, Paper(1, Counts.ones(order)), Notes(seen, seen))
        self.fails(TooMany(5000), best_everywhere, antichain(13), Paper(1, Counts()), Notes(Counts(), Counts()))
        self.fails(TooMany(30), best_everywhere, antichain(13), Paper(1, Counts()), Notes(seen, seen))
        self.fails(TooMany(6), best_everywhere, antichain(13), Paper(1, Counts()), Notes(Counts(), Counts.at(pairs[:7])))


class RegretTest(CostCase):
    def plain(self, order, line, notes):
        """The regret by all lines M, by the words of [144]."""
        values = []
        for other in plain_lines(order):
            more = sum(high for x, y, high in notes.highs
                       if other.index(x) > other.index(y) and line.index(x) < line.index(y))
            less = sum(low for x, y, low in notes.lows
                       if line.index(x) > line.index(y) and other.index(x) < other.index(y))
            values.append((more - less, other))
        return values

    def test_regrets(self):
        # [144]
        for order in ORDERS:
            lines = plain_lines(order)
            for notes in some_notes(order, 2, 3, 3) + some_notes(order, 1, 2, BIG):
                for line in lines[::max(1, len(lines) // 5)]:
                    values = self.plain(order, line, notes)
                    number, other = self.told(line_regret, order, list(line), notes)
                    self.assertEqual(number, max(value for value, _ in values))
                    self.assertIn((number, other), values)
                    self.assertGreaterEqual(number, 0)
                    # It is the most that the worth is above what the line earns, over all agreeing weights.
                    gaps = [worth(order, counts) - earned_by(line, counts) for counts in agreeing(notes, 3)]
                    self.assertEqual(number, max(gaps))

    def test_richest_everywhere(self):
        # [144]
        seen = set()
        for order in ORDERS + [ORDER]:
            for notes in some_notes(order, 3, 2, 2) + some_notes(order, 1, 1, BIG) + [Notes(Counts(), Counts())]:
                fine = [line for line in plain_lines(order) if line_regret(order, line, notes)[0] == 0]
                answer = self.gives(fine[0] if fine else None, richest_everywhere, order, notes)
                seen.add(answer is None)
                if answer is not None:
                    for counts in agreeing(notes, 3):
                        self.assertEqual(earned_by(answer, counts), worth(order, counts))
        self.assertEqual(seen, {True, False})

    def test_by_hand(self):
        notes = Notes(Counts([(0, 1, 1)]), Counts([(0, 1, 3), (1, 0, 2)]))
        self.gives((1, (0, 1)), line_regret, antichain(2), (1, 0), notes)
        self.gives((3, (1, 0)), line_regret, antichain(2), (0, 1), notes)
        self.gives(None, richest_everywhere, antichain(2), notes)
        self.gives((1, 0), richest_everywhere, antichain(2), Notes(Counts([(0, 1, 2)]), Counts([(0, 1, 3), (1, 0, 2)])))
        self.gives((0,), richest_everywhere, chain(1), Notes(Counts(), Counts()))
        # Sure pairs are turned by each line.
        self.gives((0, (0, 1)), line_regret, chain(2), [0, 1], Notes(Counts(), Counts([(1, 0, BIG)])))
        self.gives((0, 1), richest_everywhere, chain(2), Notes(Counts([(1, 0, 3)]), Counts([(1, 0, BIG)])))

    def test_a_thousand_lines(self):
        order = thousand_lines()
        self.assertEqual(len(lines_of(order)), 1000)
        line = self.told(richest_everywhere, order, Notes(Counts(), Counts()))
        self.assertEqual(line, lines_of(order, first=1)[0])
        # Each couple weighs as much either way, known to be 5 or not known at all.
        ones = Counts.at(open_pairs(order), number=5)
        self.assertEqual(richest_everywhere(order, Notes(ones, ones)), line)
        self.assertIsNone(richest_everywhere(order, Notes(Counts(), ones)))
        self.fails(TooMany(1000), richest_everywhere, antichain(7), Notes(Counts(), Counts()))
        self.fails(TooMany(1000), richest_everywhere, antichain(16), Notes(Counts(), Counts()))
        self.fails(Unfit(0, 0), richest_everywhere, antichain(16), Notes(Counts(), Counts([(0, 0, 1)])))
        self.assertEqual(len(lines_of(antichain(6))), 720)
        self.told(richest_everywhere, antichain(6), Notes(Counts(), Counts.at(all_pairs(antichain(6))[:9])))

    def test_many_lines(self):
        order = many_lines()
        lows = few_counts(order, 1, 30, 5)[0]
        notes = Notes(lows, lows + few_counts(order, 1, 20, BIG)[0])
        for line in lines_of(order, first=3):
            number, other = self.told(line_regret, order, line, notes)
            weights = Counts([(x, y, notes.lows[x, y] if line.index(x) > line.index(y) else high)
                              for x, y, high in notes.highs])
            self.assertEqual(number, worth(order, weights) - earned_by(line, weights))
            self.assertEqual(earned_by(other, weights), worth(order, weights))

    def test_refusals_in_their_order(self):
        fit = Notes(Counts(), Counts([(1, 0, 1)]))
        unfit = Notes(Counts([(1, 2, 1)]), Counts([(0, 2, 1), (1, 2, 1)]))
        for value in NO_LISTS:
            self.fails(BadRow(-1), line_regret, ORDER, value, unfit)
        for line, place in (((0, 1, 2), 3), ((0, 1, 2, 4), 3), ((0, 0, 1, 2), 1), ((True, 0, 2, 3), 0)):
            self.fails(BadRow(place), line_regret, ORDER, line, unfit)
        self.fails(BadLine(0), line_regret, ORDER, (2, 0, 1, 3), unfit)
        self.fails(Unfit(1, 2), line_regret, ORDER, (0, 1, 2, 3), unfit)
        self.fails(Unfit(0, 2), line_regret, ORDER, (0, 1, 2, 3), Notes(Counts(), unfit.highs))
        self.fails(Unfit(1, 2), richest_everywhere, ORDER, unfit)
        self.fails(TooMany(5000), line_regret, antichain(13), tuple(range(13)), fit)
        self.told(line_regret, five_thousand_lower_sets(), lines_of(five_thousand_lower_sets(), first=1)[0], fit)


if __name__ == "__main__":
    unittest.main()
