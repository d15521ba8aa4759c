"""linemix/mixes.py, with [32]."""

import operator
import unittest
from itertools import permutations, product
from math import lcm
from random import Random

from linemix.counts import Counts
from linemix.errors import BadMix, BadNumber, BadPlace, OtherSize
from linemix.lines import lines_of
from linemix.mixes import Mix
from linemix.numbers import is_at_most, lowest
from linemix.shapes import antichain, chain
from tests.support import NO_LISTS, ORDER, Case, many_lines, some_counts

BIG = 10 ** 30
MIX = Mix(6, [((1, 0, 2), 3), ((0, 1, 2), 2), ([2, 1, 0], 4)])
EMPTY = Mix(5, ())
NO_NUMBERS = (0, -1, True, False, None, 1.0, "1", (1,), [1])


def total(mix):
    return mix.total


def some_mixes(size, many):
    """The same mixes on every run of rows of that size."""
    dice = Random(f"{size} {many}")
    rows = list(permutations(range(size)))
    return [Mix(dice.randint(1, 6), [(dice.choice(rows), dice.randint(1, 5)) for _ in range(dice.randint(0, 4))])
            for _ in range(many)]


class MadeTest(Case):
    def test_rows(self):
        self.assertEqual(list(MIX), [((0, 1, 2), 2), ((1, 0, 2), 3), ((2, 1, 0), 4)])
        self.assertEqual(MIX.bottom, 6)
        self.assertEqual(list(EMPTY), [])
        self.assertEqual(EMPTY.bottom, 5)
        self.assertEqual(list(Mix(1, [[[0], BIG]])), [((0,), BIG)])

    def test_equal_lines_are_put_together(self):
        mix = Mix(4, [((1, 0), 1), ([0, 1], 2), [[1, 0], 5], ((1, 0), BIG)])
        self.assertEqual(list(mix), [((0, 1), 2), ((1, 0), BIG + 6)])
        self.assertEqual((len(mix), mix.bottom, mix.total), (2, 4, (BIG // 4 + 2, 1)))

    def test_the_bottom_stays_as_handed_in(self):
        mix = Mix(10, [((0, 1), 5)])
        self.assertEqual((mix.bottom, mix.total, list(mix)), (10, (1, 2), [((0, 1), 5)]))

    def test_iteration(self):
        for line, number in MIX:
            self.assertIs(type(line), tuple)
            self.assertIs(type(number), int)
        for row in MIX:
            self.assertIs(type(row), tuple)
        self.assertEqual([(a, b) for a in MIX for b in MIX], list(product(MIX, repeat=2)))

    def test_len(self):
        self.assertEqual([len(MIX), len(EMPTY), len(Mix(1, [((0,), 1), ((0,), 1)]))], [3, 0, 1])

    def test_rows_of_any_size(self):
        row = tuple(range(39, -1, -1))
        mix = Mix(2, [(row, 1)])
        self.gives((1, 2), mix.share, 0, 39)
        self.gives(1, mix.number_of, row)

    def test_refusals_in_their_order(self):
        for wrong in NO_NUMBERS:
            self.fails(BadNumber("bottom"), Mix, wrong, None)
        for value in NO_LISTS + (MIX, {}):
            self.fails(BadMix(-1), Mix, 1, value)
        right = ((1, 0, 2), 3)
        for wrong in (None, 1, "ab", {0, 1}, range(2), (), ((1, 0, 2),), ((1, 0, 2), 3, 4), [(1, 0, 2)], MIX):
            self.fails(BadMix(0), Mix, 1, [wrong])
            self.fails(BadMix(2), Mix, BIG, (right, list(right), wrong, None))
        for line in (None, 1, "012", {0, 1, 2}, range(3), (), [], (0, 1, 1), (0, 1, 3), (1, 2, 3), (-1, 0, 1),
                     (0, True, 2), (False, 1, 2), (0, 1.0, 2), (0, 1, "2"), (0, 1, None), ((0,), 1, 2), [0, 1, [2]]):
            self.fails(BadMix(0), Mix, 1, [(line, 1)])
            self.fails(BadMix(1), Mix, 1, [right, (line, 1)])
        for wrong in NO_NUMBERS:
            self.fails(BadMix(1), Mix, 1, ([[0, 1], 1], ((1, 0), wrong)))

    def test_lines_of_other_sizes(self):
        self.fails(BadMix(1), Mix, 1, [((0, 1), 1), ((0, 1, 2), 1)])
        self.fails(BadMix(2), Mix, 1, [((0, 1), 1), ((1, 0), 1), ((0,), 1), None])

    def test_later_changes_have_no_effect(self):
        line = [1, 0]
        rows = [[line, 2]]
        mix = Mix(1, rows)
        line.reverse()
        rows[0][1] = 7
        rows.append(((0, 1), 1))
        self.assertEqual(list(mix), [((1, 0), 2)])
        self.assertEqual(mix.share(0, 1), (2, 1))


class TotalTest(Case):
    def test_total(self):
        self.gives((3, 2), total, MIX)
        self.gives((0, 1), total, EMPTY)
        self.gives((BIG, 1), total, Mix(3, [((0,), 3 * BIG)]))

    def test_share(self):
        self.gives((7, 6), MIX.share, 0, 1)
        self.gives((1, 3), MIX.share, 1, 0)
        self.gives((5, 6), MIX.share, 2, 0)
        for mix in some_mixes(3, 20):
            for x, y in permutations(range(3), 2):
                weight = sum(number for line, number in mix if line.index(x) > line.index(y))
                self.gives(lowest(weight, mix.bottom), mix.share, x, y)

    def test_share_refuses_in_order(self):
        for wrong in (-1, 3, BIG, True, False, None, 1.0, "1", (1,), [1]):
            self.fails(BadPlace("x"), MIX.share, wrong, wrong)
            self.fails(BadPlace("y"), MIX.share, 0, wrong)
        for x in range(3):
            self.fails(BadPlace("y"), MIX.share, x, x)
        self.fails(BadPlace("y"), Mix(1, [((0,), 1)]).share, 0, 0)

    def test_share_without_lines(self):
        for x, y in ((0, 1), (0, 0), (-1, BIG), (None, "1"), (True, [])):
            self.gives((0, 1), EMPTY.share, x, y)


class PaysTest(Case):
    def test_by_the_shares(self):
        for mix in some_mixes(4, 25):
            for counts in some_counts(antichain(4), 6, 2) + some_counts(ORDER, 6, 1):
                wanted = all(is_at_most((toll, 1), mix.share(x, y)) for x, y, toll in counts)
                self.gives(wanted, mix.pays, counts)

    def test_just_enough(self):
        mix = Mix(3, [((0, 1), 6), ((1, 0), 3)])
        self.gives(True, mix.pays, Counts([(1, 0, 2), (0, 1, 1)]))
        self.gives(False, mix.pays, Counts([(1, 0, 2), (0, 1, 2)]))
        self.gives(False, Mix(3, [((0, 1), 5), ((1, 0), 3)]).pays, Counts([(1, 0, 2)]))
        self.gives(True, Mix(1, [((0, 1), BIG)]).pays, Counts([(1, 0, BIG)]))
        self.gives(False, Mix(1, [((0, 1), BIG)]).pays, Counts([(1, 0, BIG + 1)]))

    def test_what_is_never_paid(self):
        mix = Mix(1, [((0, 1, 2), BIG), ((2, 1, 0), BIG)])
        for x, y in ((0, 0), (2, 2), (3, 0), (0, 3), (3, 4), (3, 3), (BIG, 1)):
            self.gives(False, mix.pays, Counts([(1, 0, 1), (x, y, 1)]))
            self.gives(True, mix.pays, Counts([(1, 0, 1), (x, y, 0)]))

    def test_without_lines(self):
        for counts in (Counts(), Counts([(0, 1, 0), (5, 5, 0)])):
            self.gives(True, EMPTY.pays, counts)
            self.gives(True, MIX.pays, counts)
        for x, y in ((0, 1), (0, 0), (BIG, 0)):
            self.gives(False, EMPTY.pays, Counts([(x, y, 1)]))


class HoldsTest(Case):
    def test_lines_of_orders(self):
        lines = lines_of(ORDER)
        for row in permutations(range(4)):
            mix = Mix(2, [(row, 1), (lines[0], 3)])
            self.gives(row in lines, mix.holds_in, ORDER)
        self.gives(True, Mix(1, [(line, 1) for line in lines]).holds_in, ORDER)
        self.gives(True, Mix(1, [(tuple(range(16)), 1)]).holds_in, many_lines())
        self.gives(False, Mix(1, [(tuple(range(15, -1, -1)), 1)]).holds_in, many_lines())

    def test_other_sizes(self):
        for size in range(1, 6):
            self.gives(size == 3, MIX.holds_in, antichain(size))
        self.gives(False, Mix(1, [((0, 1), 1)]).holds_in, chain(1))

    def test_without_lines(self):
        for order in (chain(1), chain(16), antichain(16), ORDER):
            self.gives(True, EMPTY.holds_in, order)

    def test_number_of(self):
        self.gives(3, MIX.number_of, (1, 0, 2))
        self.gives(4, MIX.number_of, [2, 1, 0])
        for line in ((0, 2, 1), [1, 2, 0], (0, 1), (), (0, 1, 2, 3)):
            self.gives(0, MIX.number_of, line)
            self.gives(0, EMPTY.number_of, line)


class SignsTest(Case):
    def test_sums(self):
        made = self.told(operator.add, MIX, Mix(4, [((0, 1, 2), 1), ((0, 2, 1), 3)]))
        self.assertEqual(made.bottom, 12)
        self.assertEqual(list(made), [((0, 1, 2), 7), ((0, 2, 1), 9), ((1, 0, 2), 6), ((2, 1, 0), 8)])
        for one, other in product(some_mixes(3, 12), repeat=2):
            made = self.told(operator.add, one, other)
            self.assertEqual(made, other + one)
            self.assertEqual(made.bottom, lcm(one.bottom, other.bottom))
            for line in permutations(range(3)):
                weight = one.number_of(line) * other.bottom + other.number_of(line) * one.bottom
                self.assertEqual(lowest(made.number_of(line), made.bottom), lowest(weight, one.bottom * other.bottom))

    def test_sums_without_lines(self):
        made = self.told(operator.add, MIX, EMPTY)
        self.assertEqual((made, made.bottom), (MIX, 30))
        made = self.told(operator.add, EMPTY, MIX)
        self.assertEqual((made, made.bottom, list(made)), (MIX, 30, [(line, 5 * number) for line, number in MIX]))
        made = self.told(operator.add, EMPTY, Mix(2, []))
        self.assertEqual((made, made.bottom, list(made)), (EMPTY, 10, []))

    def test_sums_of_unlike_sizes(self):
        for size in (1, 2, 4, 9):
            other = Mix(1, [(tuple(range(size)), 1)])
            self.fails(OtherSize(size), operator.add, MIX, other)
            self.fails(OtherSize(3), operator.add, other, MIX)

    def test_equal(self):
        for factor in (1, 2, BIG):
            same = Mix(6 * factor, [(line, number * factor) for line, number in MIX])
            self.assertTrue(MIX == same and same == MIX)
            self.assertFalse(MIX != same)
        self.assertFalse(MIX == Mix(5, list(MIX)))
        self.assertFalse(MIX == Mix(6, list(MIX)[1:]))
        self.assertFalse(MIX == Mix(6, list(MIX)[1:] + [((0, 1, 2), 1)]))
        self.assertFalse(MIX == Mix(6, list(MIX)[1:] + [((0, 2, 1), 2)]))
        self.assertTrue(EMPTY == Mix(7, []))
        self.assertFalse(EMPTY == MIX)
        for one, other in product(some_mixes(2, 15), repeat=2):
            same = all(lowest(one.number_of(line), one.bottom) == lowest(other.number_of(line), other.bottom)
                       for line in permutations(range(2)))
            self.assertIs(one == other, same)
            self.assertIs(one != other, not same)

    def test_unlike_what_is_no_mix(self):
        for value in (None, 0, [], (), list(MIX), tuple(MIX), (6, list(MIX)), {}, Mix, Counts(), chain(3)):
            self.assertIs(MIX == value, False)
            self.assertIs(value == MIX, False)
            self.assertIs(EMPTY == value, False)
            self.assertIs(EMPTY != value, True)


if __name__ == "__main__":
    unittest.main()
