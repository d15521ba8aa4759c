"""linemix/wholes.py: the whole cost of [34], with [43]."""

import unittest

from linemix.costs import cost, tight_ones
from linemix.counts import Counts
from linemix.errors import TooMany, Unfit
from linemix.leading import tight_pairs
from linemix.lines import is_line
from linemix.lots import greatest_lots, most_against
from linemix.numbers import is_at_most
from linemix.orders import Order
from linemix.pairs import all_pairs, against, open_pairs, sure_pairs
from linemix.rings import ring_around
from linemix.shapes import antichain, bent, chain, crown, standard
from linemix.wholes import dimension, whole_cost, whole_lines
from tests.support import (
    ORDER, CostCase, few_counts, five_thousand_lower_sets, flipped_plainly, many_lines, renumbered, small_orders,
    some_orders, turned_sets,
)

CALLS = (whole_cost, whole_lines)
# An order with six tight pairs that cost 3, while no three lines turn them all.
GAP = Order(12, [(i, 6 + j) for i in range(6) for j in range(6) if (j - i) % 6 in (1, 3, 4, 5)])
# Orders of 16 places, with tolls at the pairs (i, 8 + i), whose whole cost is no easy matter: i is below 8 + j where the
# word of i has the digit j.
HARD = (
    (("1267", "45", "13467", "014", "067", "02347", "1357", "13"), (2,) * 8),
    (("4", "0457", "0167", "012457", "256", "027", "0135", "046"), (2,) * 8),
    (("57", "06", "17", "02", "13", "24", "35", "46"), (1, 2, 1, 2, 1, 1, 1, 1)),
)


def fewest(lots, tolls):
    """The least number of these lots that have each pair as often as its toll, by a look at all ways."""
    level = {tuple(toll for _, _, toll in tolls)}
    many = 0
    while not any(sum(left) == 0 for left in level):
        level = {tuple(max(toll - ((x, y) in lot), 0) for (x, y, _), toll in zip(tolls, left))
                 for left in level for lot in lots}
        many += 1
    return many


def small_tolls(order, many, tolled, most):
    """Counts with a sum of at most 24."""
    return [tolls for tolls in few_counts(order, many, tolled, most) if tolls.total_count() <= 24]


class WholeTest(CostCase):
    def shown_whole(self, order, tolls, wanted=None):
        """The lines turn each pair often enough; their number is wanted, or bounded from below by the cost."""
        value = self.told(whole_cost, order, tolls)
        self.assertIs(type(value), int)
        lines = self.told(whole_lines, order, tolls)
        self.assertIs(type(lines), list)
        self.assertEqual(len(lines), value)
        self.assertEqual(lines, sorted(lines))
        for line in lines:
            self.assertIs(type(line), tuple)
            self.assertTrue(is_line(order, line))
        for x, y, toll in tolls:
            self.assertGreaterEqual(sum(line.index(x) > line.index(y) for line in lines), toll)
        self.assertTrue(is_at_most(cost(order, tolls), (value, 1)))
        if wanted is not None:
            self.assertEqual(value, wanted)
        return value

    def test_examples(self):
        tolls = Counts([(1, 0, 1), (2, 1, 1), (0, 2, 1)])
        self.assertEqual([whole_cost(antichain(3), tolls), whole_cost(antichain(3), tolls * 2)], [2, 3])
        self.shown_whole(antichain(3), tolls, 2)
        self.shown_whole(antichain(3), tolls * 2, 3)
        self.shown_whole(antichain(3), tolls * 8, 12)

    def test_by_a_look_at_all_lines(self):
        for order in small_orders()[::3]:
            lots = turned_sets(order)
            for tolls in small_tolls(order, 2, 3, 3) + small_tolls(order, 1, 6, 2):
                self.shown_whole(order, tolls, fewest(lots, list(tolls)))

    def test_by_a_look_at_all_greatest_lots(self):
        for order in some_orders(20, 5, 7) + [bent(), standard(3), standard(4), antichain(5), crown(4, reach=1)]:
            for tolls in small_tolls(order, 2, 5, 3) + small_tolls(order, 2, 8, 2):
                lots = greatest_lots(order, [(x, y) for x, y, _ in tolls])
                self.shown_whole(order, tolls, fewest(lots, list(tolls)))

    def test_more_than_the_cost(self):
        pairs = [(i, 6 + i) for i in range(6)]
        self.assertEqual(cost(GAP, Counts.at(pairs)), (3, 1))
        lots = greatest_lots(GAP, pairs)
        self.assertEqual(fewest(lots, list(Counts.at(pairs))), 4)
        self.shown_whole(GAP, Counts.at(pairs), 4)
        for factor in (2, 3, 4):
            tolls = Counts.at(pairs, number=factor)
            self.shown_whole(GAP, tolls, fewest(lots, list(tolls)))
        for at in range(6):
            tolls = Counts.at(pairs).with_count(at, 6 + at, 3)
            self.shown_whole(GAP, tolls, fewest(lots, list(tolls)))

    def test_where_parts_of_lines_are_of_no_use(self):
        for words, row in HARD:
            order = Order(16, [(i, 8 + int(digit)) for i, word in enumerate(words) for digit in word])
            tolls = Counts([(i, 8 + i, toll) for i, toll in enumerate(row)])
            lots = greatest_lots(order, [(i, 8 + i) for i in range(8)])
            self.shown_whole(order, tolls, fewest(lots, list(tolls)))

    def test_knots_side_by_side(self):
        # Two rings of three far from one another, and a couple: each alone is paid while the others are.
        order = antichain(3) >> antichain(3) >> antichain(2)
        rings = [(1, 0), (2, 1), (0, 2), (4, 3), (5, 4), (3, 5)]
        self.shown_whole(order, Counts.at(rings), 2)
        self.shown_whole(order, Counts.at(rings + [(6, 7), (7, 6)], number=2), 4)
        self.shown_whole(order, Counts([(6, 7, 3), (7, 6, 4), (1, 0, 1), (7, 0, 9)]), 9)

    def test_no_toll(self):
        for order in (chain(1), chain(16), ORDER, many_lines(), antichain(12)):
            for tolls in (Counts(), Counts([(0, 0, 0), (5, 77, 0)])):
                self.gives(0, whole_cost, order, tolls)
                self.gives([], whole_lines, order, tolls)

    def test_many_lines(self):
        for order in (many_lines(), five_thousand_lower_sets(), antichain(12)):
            for tolls in few_counts(order, 3, 12, 2) + few_counts(order, 2, 3, 8):
                self.shown_whole(order, tolls)

    def test_repeats_stand_next_to_one_another(self):
        self.gives([(0, 1)] * 3, whole_lines, chain(2), Counts([(1, 0, 3)]))
        self.gives([(0, 1), (0, 1), (1, 0)], whole_lines, antichain(2), Counts([(1, 0, 2), (0, 1, 1)]))


class RulesTest(CostCase):
    """[43], and [37] for whole costs."""

    def test_ends(self):
        for order in small_orders()[::4] + some_orders(8, 5, 6):
            for tolls in small_tolls(order, 2, 5, 3):
                value = whole_cost(order, tolls)
                self.assertGreaterEqual(value, tolls.greatest_count())
                self.assertTrue(is_at_most(cost(order, tolls), (value, 1)))
                for one in tolls:
                    for other in tolls:
                        if against(order, one[:2], other[:2]):
                            self.assertGreaterEqual(value, one[2] + other[2])
        for many in range(3, 8):
            tolls = Counts.at(most_against(standard(many)), number=2)
            self.gives(2 * many, whole_cost, standard(many), tolls)

    def test_sums(self):
        for order in small_orders()[::4] + some_orders(8, 5, 6):
            first, second = few_counts(order, 2, 4, 2)
            both = whole_cost(order, first + second)
            self.assertLessEqual(both, whole_cost(order, first) + whole_cost(order, second))
            self.assertGreaterEqual(both, max(whole_cost(order, first), whole_cost(order, second)))

    def test_upside_down_and_sub_orders(self):
        for order in small_orders()[::4] + some_orders(8, 5, 6):
            for tolls in small_tolls(order, 1, 5, 3):
                self.assertEqual(whole_cost(~order, flipped_plainly(tolls)), whole_cost(order, tolls))
                places = sorted({place for x, y, _ in tolls for place in (x, y)})
                if places:
                    self.assertEqual(whole_cost(order.on(places), renumbered(tolls, places)), whole_cost(order, tolls))


class DimensionTest(CostCase):
    def test_known_ones(self):
        for order, wanted in (
            (chain(1), 0), (chain(2), 1), (chain(16), 1), (antichain(2), 2), (antichain(4), 2), (ORDER, 2), (bent(), 3),
            (standard(3), 3), (standard(8), 8), (chain(2) * chain(2) * chain(2), 3), (crown(4, reach=1), 3),
            (crown(5, reach=1), 4), (crown(6, reach=1), 4), (chain(2) * chain(2) * chain(2) * chain(2), 4),
        ):
            self.gives(wanted, dimension, order)
            self.assertEqual(whole_cost(order, tight_ones(order)), wanted)

    def test_is_that_of_all_pairs(self):
        for order in small_orders():
            wanted = whole_cost(order, Counts.ones(order)) if len(all_pairs(order)) <= 12 else 2
            self.gives(wanted, dimension, order)
            if order.size > 1 and not order.is_chain():
                self.assertGreaterEqual(wanted, 2)

    def test_too_many_tight_pairs(self):
        for order in (antichain(5), antichain(16), crown(5, reach=2)):
            self.assertGreater(len(tight_pairs(order)), 12)
            self.fails(TooMany(12), dimension, order)
        self.assertEqual(len(tight_pairs(antichain(4))), 12)


class RefusalsTest(CostCase):
    def refused(self, error, order, tolls):
        for call in CALLS:
            self.fails(error, call, order, tolls)

    def test_bounds(self):
        order = antichain(5)
        pairs = open_pairs(order)
        tolls = Counts.at(pairs[:12], number=2)
        self.assertEqual(whole_cost(order, tolls), len(whole_lines(order, tolls)))
        self.refused(TooMany(12), order, Counts.at(pairs[:13]))
        self.refused(TooMany(12), order, Counts.at(pairs[:13], number=2))
        self.refused(TooMany(24), order, Counts([(x, y, 2 if at else 3) for at, (x, y) in enumerate(pairs[:12])]))
        self.refused(TooMany(24), order, Counts([(0, 1, 25)]))
        self.refused(TooMany(24), order, Counts([(0, 1, 10 ** 30)]))
        self.gives(24, whole_cost, order, Counts([(0, 1, 24)]))
        self.gives(24, whole_cost, order, Counts([(0, 1, 12), (1, 0, 12)]))
        self.gives(24, whole_cost, chain(3), Counts([(x, y, 24) for x, y in sure_pairs(chain(3))[:1]]))

    def test_which_bound_first(self):
        order = antichain(13)
        pairs = open_pairs(order)
        self.refused(TooMany(12), order, Counts.at(pairs[:13], number=9))
        self.refused(TooMany(12), order, Counts.at(pairs[:31]))
        self.refused(TooMany(24), order, Counts.at(pairs[:12], number=9))
        self.refused(TooMany(5000), order, Counts.at(pairs[:12], number=2))
        self.refused(TooMany(5000), order, Counts())
        self.refused(TooMany(5000), chain(1) >> five_thousand_lower_sets(), Counts([(0, 1, 0)]))

    def test_unfit(self):
        self.refused(Unfit(0, 2), ORDER, Counts([(0, 2, 99), (1, 2, 99)]))
        self.refused(Unfit(3, 3), antichain(16), Counts([(3, 3, 1)] + [(15, y, 9) for y in range(15)]))

    def test_rings(self):
        for size in range(2, 9):
            order = antichain(size)
            tolls = Counts.at(ring_around(order, tuple(range(size))))
            self.gives(2, whole_cost, order, tolls)
            self.gives(-(-3 * size // (size - 1)), whole_cost, order, tolls * 3)


if __name__ == "__main__":
    unittest.main()
