"""linemix/crowns.py, with [107] to [109]."""

import random
import unittest
from fractions import Fraction
from itertools import product

from linemix.costs import cost, full_cost, tight_ones
from linemix.counts import Counts
from linemix.crowns import crown_cost, crown_level_counts, crown_line, crown_mix, crown_most, crown_pairs
from linemix.errors import BadNumber, BadRates
from linemix.families import table_of
from linemix.leading import tight_pairs
from linemix.lots import most_at_once
from linemix.mixes import Mix
from linemix.numbers import is_at_most
from linemix.onemore import without
from linemix.rates import lot_bound
from linemix.shapes import crown
from linemix.turning import turns
from linemix.worths import worth
from tests.plain_support import told
from tests.support import NO_LISTS, CostCase, is_turned, lots_within, turned_sets

CROWNS = [(many, reach) for many in range(3, 9) for reach in range(many - 2)]
NO_INTEGERS = (None, True, False, "3", 3.0, (3,), [3])


class PairsTest(CostCase):
    def test_by_its_words(self):
        for many, reach in CROWNS:
            pairs = [(i, many + (i + d) % many) for d in range(reach + 1) for i in range(many)]
            order = crown(many, reach=reach)
            lot = self.gives(tuple(sorted(pairs)), crown_pairs, many, reach=reach)
            self.assertEqual(len(lot), many * (reach + 1))
            self.assertEqual(tight_pairs(order), lot)
        self.gives(((0, 3), (1, 4), (2, 5)), crown_pairs, 3)

    def test_most_at_once(self):
        # [107]
        for many, reach in CROWNS:
            if many * (reach + 1) <= 12:
                lot = crown_pairs(many, reach=reach)
                self.assertEqual(most_at_once(crown(many, reach=reach), lot), crown_most(reach))
            # Weights 1 at all of them are worth as many as one line turns.
            self.assertEqual(worth(crown(many, reach=reach), Counts.at(crown_pairs(many, reach=reach))),
                             crown_most(reach))
        sets = turned_sets(crown(3))
        self.assertEqual(max(len(lot) for lot in lots_within(crown_pairs(3), 3) if is_turned(lot, sets)), 1)

    def test_numbers(self):
        for reach in range(21):
            self.gives((reach + 1) * (reach + 2) // 2, crown_most, reach)
        self.assertEqual((crown_most(0), crown_most(20)), (1, 231))
        for wrong in (-1, 21, 10 ** 30) + NO_INTEGERS:
            self.fails(BadNumber("reach"), crown_most, wrong)


class CostsTest(CostCase):
    def test_full_costs(self):
        # [108], [109]
        for many, reach in CROWNS:
            order = crown(many, reach=reach)
            value = self.gives(told(Fraction(2 * many, reach + 2)), crown_cost, many, reach=reach)
            if many * (reach + 1) <= 30:
                self.assertEqual(full_cost(order), value)
            self.assertEqual(lot_bound(order), many - reach)
            self.assertTrue(is_at_most(value, (many - reach, 1)))
            self.assertEqual(value == (many - reach, 1), reach == 0)
            if many * (reach + 1) <= 12 or many < 7:
                _, family, _ = table_of(order, tight_ones(order))
                self.assertEqual({len(lot) for lot in family.lots}, {many - reach - 1})
        self.gives((3, 1), crown_cost, 3)
        self.gives((8, 3), crown_cost, 4, reach=1)

    def test_without_one_place(self):
        # [109]
        for many, reach in CROWNS:
            if many <= 6:
                top, bottom = crown_cost(many, reach=reach)
                for x in range(2 * many):
                    value = full_cost(without(crown(many, reach=reach), (x,)))
                    self.assertTrue(is_at_most(value, (top, bottom)) and is_at_most((top - bottom, bottom), value))
                    self.assertTrue(reach or value == (many - 1, 1))

    def test_level_counts(self):
        # [108]
        dice = random.Random("levels")
        for many, reach in CROWNS:
            numbers = [dice.randint(0, 5) for _ in range(reach + 1)]
            counts = self.told(crown_level_counts, many, numbers, reach=reach)
            self.assertEqual(counts, Counts([(i, many + (i + d) % many, numbers[d])
                                             for i in range(many) for d in range(reach + 1)]))
            self.assertEqual(crown_level_counts(many, tuple(numbers), reach=reach), counts)
        for many in range(3, 9):
            for t in (0, 1, 7, 10 ** 30):
                counts = crown_level_counts(many, [t])
                self.assertEqual(cost(crown(many), counts), (many * t, 1))
                self.assertEqual(worth(crown(many), counts), t)
        for many in range(4, 9):
            for t, u in ((0, 0), (1, 0), (0, 3), (2, 2), (5, 1), (1, 2), (10 ** 28, 1), (10 ** 12, 10 ** 12 + 1)):
                order = crown(many, reach=1)
                counts = crown_level_counts(many, [t, u], reach=1)
                wanted = max(Fraction(many * (t + u), 3), Fraction(many * t, 2), Fraction(many * u, 2))
                self.assertEqual(cost(order, counts), told(wanted))
                self.assertEqual(worth(order, counts), t + u + max(t, u))

    def test_refusals_of_level_counts(self):
        for value in NO_LISTS:
            self.fails(BadRates(-1), crown_level_counts, 4, value, reach=1)
        for tolls, place in (((-1, 0), 0), ([0, True], 1), ((0, "1"), 1), ((0,), 1), ([], 0), ((0, 1, 2), 3),
                             ((0, 1, None), 2)):
            self.fails(BadRates(place), crown_level_counts, 4, tolls, reach=1)


class LineTest(CostCase):
    def line(self, many, reach, start, entries):
        order = crown(many, reach=reach)
        line = self.told(crown_line, many, reach=reach, start=start, turns=entries)
        self.assertEqual(sorted(line), list(range(2 * many)))
        self.assertTrue(all(line.index(low) < line.index(high) for low, high in order.steps_told()))
        # The highest lower place is start, the next ones down go on along the stretch.
        taken, first, last = [start], start, start
        for entry in entries:
            if entry == 0:
                last = (last + 1) % many
                taken.append(last)
            else:
                first = (first - 1) % many
                taken.append(first)
        lows = [place for place in line if place < many]
        self.assertEqual(lows[::-1][:reach + 1], taken)
        turned = [pair for pair in crown_pairs(many, reach=reach) if turns(line, pair)]
        self.assertEqual(len(turned), crown_most(reach))
        return line

    def test_all_lines(self):
        for many, reach in CROWNS:
            for start in range(many):
                for entries in product((0, 1), repeat=reach):
                    self.line(many, reach, start, entries)
        self.assertEqual(crown_line(5, reach=2, start=3, turns=[0, 1]), crown_line(5, reach=2, start=3, turns=(0, 1)))
        self.assertEqual(crown_line(5), crown_line(5, reach=0, start=0, turns=()))

    def test_example(self):
        line = crown_line(4, reach=1, turns=(0,))
        self.assertEqual((crown_cost(4, reach=1), crown_mix(4, reach=1).total, crown_most(1), turns(line, (1, 5)),
                          turns(line, (1, 6))), ((8, 3), (8, 3), 3, True, False))

    def test_refusals(self):
        for value in NO_LISTS:
            self.fails(BadRates(-1), crown_line, 5, reach=2, turns=value)
        for entries, place in (((2, 0), 0), ((0, -1), 1), ((0, True), 1), ((False, 0), 0), ((0, "1"), 1), ((0,), 1),
                               ((), 0), ((0, 1, 0), 3), ((0, 1, 2), 2), ((2, "x"), 0), ([1, None, 5], 1)):
            self.fails(BadRates(place), crown_line, 5, reach=2, turns=entries)
        self.fails(BadRates(0), crown_line, 5, reach=2)
        self.fails(BadRates(1), crown_line, 3, turns=(0,))
        for wrong in (-1, 5, 10 ** 30) + NO_INTEGERS:
            self.fails(BadNumber("start"), crown_line, 5, reach=2, start=wrong, turns=None)


class MixTest(CostCase):
    def test_mixes(self):
        for many, reach in CROWNS:
            order = crown(many, reach=reach)
            mix = self.told(crown_mix, many, reach=reach)
            self.assertEqual(mix.total, crown_cost(many, reach=reach))
            self.assertTrue(mix.holds_in(order))
            for x, y in crown_pairs(many, reach=reach):
                self.assertEqual(mix.share(x, y), (1, 1))
            rows = [(crown_line(many, reach=reach, start=start, turns=[turn] * reach), 1)
                    for start in range(many) for turn in ((0, 1) if reach else (0,))]
            self.assertEqual(mix, Mix(reach + 2 if reach else 1, rows))
            # It pays the toll 1 at all tight pairs, so it is best for them.
            self.assertTrue(mix.pays(tight_ones(order)))


class RefusalsTest(CostCase):
    def test_many_and_reach_come_first(self):
        calls = ((crown_pairs, ()), (crown_cost, ()), (crown_mix, ()), (crown_level_counts, (None,)))
        for call, rest in calls:
            for wrong in (2, 9, 0, -1, 10 ** 30) + NO_INTEGERS:
                self.fails(BadNumber("many"), call, wrong, *rest, reach=9)
            for many in (3, 5, 8):
                for wrong in (-1, many - 2, 10 ** 30) + NO_INTEGERS:
                    self.fails(BadNumber("reach"), call, many, *rest, reach=wrong)
        for wrong in (2, 9) + NO_INTEGERS:
            self.fails(BadNumber("many"), crown_line, wrong, reach=9, start=-1, turns=None)
        for wrong in (-1, 3) + NO_INTEGERS:
            self.fails(BadNumber("reach"), crown_line, 5, reach=wrong, start=-1, turns=None)

    def test_keywords(self):
        for call, args in ((crown_pairs, (4, 1)), (crown_cost, (4, 1)), (crown_mix, (4, 1)), (crown_line, (4, 1)),
                           (crown_level_counts, (4, [1, 1], 1))):
            with self.assertRaises(TypeError):
                call(*args)


if __name__ == "__main__":
    unittest.main()
