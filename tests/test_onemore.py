"""linemix/onemore.py, with [76] to [79] and [88]."""

import random
import unittest
from itertools import combinations

from linemix.costs import best_mix, cost, full_cost
from linemix.counts import Counts
from linemix.errors import AreOpen, BadLine, BadMix, BadPlace, BadRow, BadSet, NotOpen, TooMany, Unfit
from linemix.lines import is_line, lines_of
from linemix.mixes import Mix
from linemix.numbers import add_up, greater_of, is_at_most
from linemix.onemore import (
    chain_bound, couple_bound, couple_line, down_line, place_bound, place_mix, tolls_at, tolls_without, up_line, without,
)
from linemix.pairs import against, all_pairs
from linemix.shapes import antichain, bent, chain, crown, standard
from linemix.turning import turns
from linemix.worths import worth
from tests.support import (
    NO_LISTS, ORDER, CostCase, few_counts, five_thousand_lower_sets, many_lines, renumbered, small_orders, some_counts,
    some_orders, turned_by,
)

BIG = 10 ** 30
ORDERS = [order for order in small_orders()[::3] if order.size >= 2] + some_orders(10, 5, 6) + [bent(), standard(3)]


def rest_of(order, chosen):
    return tuple(place for place in range(order.size) if place not in chosen)


def some_tolls(order):
    return few_counts(order, 2, 4, 5) + few_counts(order, 1, 9, 3) + [Counts()]


def over(tolls, x):
    """The greatest toll of the pairs (x, .)."""
    return max([toll for a, _, toll in tolls if a == x], default=0)


def under(tolls, x):
    """The greatest toll of the pairs (., x)."""
    return max([toll for _, b, toll in tolls if b == x], default=0)


def bound_at(order, tolls, x):
    """place_bound by its words."""
    rest = rest_of(order, (x,))
    a, b = over(tolls, x), under(tolls, x)
    return add_up(greater_of(cost(order.on(rest), renumbered(tolls, rest)), (min(a, b), 1)), (max(a, b), 1))


class WithoutTest(CostCase):
    def test_by_their_words(self):
        for order in ORDERS:
            for many in range(order.size):
                for chosen in list(combinations(range(order.size), many))[::3]:
                    rest = rest_of(order, chosen)
                    self.assertEqual(self.told(without, order, chosen), order.on(rest))
                    for tolls in some_tolls(order)[:2]:
                        made = self.told(tolls_without, order, tolls, list(chosen)[::-1])
                        self.assertEqual(made, renumbered(tolls, rest))
        self.assertEqual(without(bent(), ()), bent())
        self.assertEqual(list(tolls_without(chain(4), Counts([(2, 0, 3), (3, 1, 4), (3, 2, 5)]), (1,))),
                         [(1, 0, 3), (2, 1, 5)])

    def test_refusals(self):
        fit, unfit = Counts([(1, 0, 1)]), Counts([(0, 2, 1)])
        for value in NO_LISTS:
            self.fails(BadSet(-1), without, ORDER, value)
            self.fails(BadSet(-1), tolls_without, ORDER, fit, value)
            self.fails(Unfit(0, 2), tolls_without, ORDER, unfit, value)
        for value, place in (((4,), 0), ((0, 0), 1), ((1, True), 1), ((0, 1, -1), 2), ((0, 1, 2, 3), 4), ([3, 1, 0, 2], 4)):
            self.fails(BadSet(place), without, ORDER, value)
            self.fails(BadSet(place), tolls_without, ORDER, fit, value)
        self.fails(BadSet(1), without, chain(1), (0,))
        self.fails(BadSet(16), without, chain(16), tuple(range(16)))
        self.assertEqual(without(chain(1), ()), chain(1))

    def test_tolls_at(self):
        for order in ORDERS:
            for tolls in some_tolls(order):
                for x in range(order.size):
                    self.gives((over(tolls, x), under(tolls, x)), tolls_at, order, tolls, x)
        self.gives((0, 0), tolls_at, chain(1), Counts(), 0)
        self.fails(Unfit(0, 2), tolls_at, ORDER, Counts([(0, 2, 1)]), 9)
        for wrong in (4, -1, True, False, None, "0"):
            self.fails(BadPlace("x"), tolls_at, ORDER, Counts([(1, 0, 1)]), wrong)


class PlaceTest(CostCase):
    """[77]."""

    def test_example(self):
        tolls = Counts([(0, 3, 1), (1, 4, 2), (2, 5, 4)])
        self.assertEqual([tolls_at(standard(3), tolls, 2), place_bound(standard(3), tolls, 2), cost(standard(3), tolls)],
                         [(4, 0), (7, 1), (7, 1)])

    def test_bound(self):
        for order in ORDERS:
            for tolls in some_tolls(order):
                value = cost(order, tolls)
                for x in range(order.size):
                    bound = self.told(place_bound, order, tolls, x)
                    self.fraction(bound)
                    self.assertEqual(bound, bound_at(order, tolls, x))
                    self.assertTrue(is_at_most(value, bound))
                    fewer = cost(without(order, (x,)), tolls_without(order, tolls, (x,)))
                    self.assertTrue(is_at_most(fewer, value))

    def test_mix(self):
        dice = random.Random("place mixes")
        for order in ORDERS:
            for tolls in some_tolls(order):
                for x in range(order.size):
                    fewer, rest = without(order, (x,)), tolls_without(order, tolls, (x,))
                    self.mixed(order, tolls, x, best_mix(fewer, rest), True)
                    lines = lines_of(fewer, first=9)
                    rows = [(dice.choice(lines), dice.randint(1, 9)) for _ in range(dice.randint(0, 4))]
                    mix = Mix(dice.randint(1, 4), rows)
                    self.mixed(order, tolls, x, mix, mix.pays(rest))

    def mixed(self, order, tolls, x, mix, pays):
        made = self.told(place_mix, order, tolls, x, mix)
        self.assertTrue(made.holds_in(order))
        a, b = over(tolls, x), under(tolls, x)
        self.assertEqual(made.total, add_up(greater_of(mix.total, (min(a, b), 1)), (max(a, b), 1)))
        if pays:
            self.lines_pay(order, made, tolls)

    def test_great_tolls(self):
        order = antichain(4)
        for first, second in ((BIG, 1), (1, BIG), (BIG, BIG), (0, BIG), (BIG, 0)):
            tolls = Counts([(0, 1, first), (2, 0, second), (1, 2, 3), (2, 3, 5), (3, 1, 10 ** 12)])
            mix = best_mix(without(order, (0,)), tolls_without(order, tolls, (0,)))
            self.mixed(order, tolls, 0, mix, True)

    def test_full_cost(self):
        for order in ORDERS + [standard(4), standard(5), crown(4, reach=1)]:
            if order.size < 2:
                continue
            value = full_cost(order)
            for x in range(order.size):
                fewer = full_cost(without(order, (x,)))
                self.assertTrue(is_at_most(fewer, value))
                if order.size >= 3:
                    self.assertTrue(is_at_most(value, add_up(fewer, (1, 1))))
                if order in (standard(3), standard(4), standard(5)):
                    self.assertEqual(value, add_up(fewer, (1, 1)))

    def test_refusals(self):
        fit, unfit, mix = Counts([(1, 0, 1)]), Counts([(0, 2, 1)]), Mix(1, ())
        for call, more in ((place_bound, ()), (place_mix, (mix,))):
            self.fails(Unfit(0, 2), call, ORDER, unfit, None, *more)
            for wrong in (4, -1, True, False, None, "0"):
                self.fails(BadPlace("x"), call, ORDER, fit, wrong, *more)
                self.fails(BadPlace("x"), call, chain(1), Counts(), wrong, *more)
            self.fails(BadSet(1), call, chain(1), Counts(), 0, *more)
        self.fails(BadSet(1), place_mix, chain(1), Counts(), 0, Mix(1, [((0, 1), 1)]))
        for rows, place in (([((0, 1, 2, 3), 1)], 0), ([((0, 2, 1), 1), ((1, 2, 0), 1)], 1), ([((0, 1), 5)], 0),
                            ([((0, 1, 2), 1), ((0, 2, 1), 1), ((2, 1, 0), 1)], 2), ([((0,), 1)], 0)):
            self.fails(BadMix(place), place_mix, ORDER, fit, 0, Mix(3, rows))
        self.assertEqual(list(without(ORDER, (0,))), [(0, 1), (0, 2)])

    def test_bounds(self):
        order = antichain(13)
        self.gives((5, 1), place_bound, order, Counts([(0, 1, 5)]), 1)
        many = Counts.at(all_pairs(order)[:31])
        # 31 tolls are too many for a cost, but not those that are left without the place.
        self.gives((3, 1), place_bound, order, many, 0)
        self.fails(TooMany(30), place_bound, order, Counts.at(all_pairs(order)[:50]), 12)
        self.fails(TooMany(5000), place_bound, antichain(14), Counts(), 0)
        wide = five_thousand_lower_sets() >> chain(1)
        self.gives((0, 1), place_bound, wide, Counts(), 15)
        self.fails(TooMany(5000), place_bound, antichain(16), Counts(), 0)
        # No bound is asked for the mix.
        mix = place_mix(antichain(16), Counts.ones(antichain(16)), 0, Mix(1, ()))
        self.assertEqual(mix.total, (2, 1))


class LinesTest(CostCase):
    """[78]."""

    def test_up_and_down(self):
        for order in ORDERS:
            for x in range(order.size):
                rest = rest_of(order, (x,))
                for line in lines_of(order.on(rest), first=5):
                    told = [rest[at] for at in line]
                    above, below = order.above(x), order.below(x)
                    high = tuple([z for z in told if z not in above] + [x] + [z for z in told if z in above])
                    low = tuple([z for z in told if z in below] + [x] + [z for z in told if z not in below])
                    self.gives(high, up_line, order, x, line)
                    self.gives(low, down_line, order, x, list(line))
                    self.turned(order, x, told, high, low)

    def turned(self, order, x, told, high, low):
        self.assertTrue(is_line(order, high) and is_line(order, low))
        for a, b in all_pairs(order):
            if a == x:
                self.assertTrue(turns(high, (a, b)))
            elif b == x:
                self.assertTrue(turns(low, (a, b)))
            elif told.index(a) > told.index(b):
                self.assertTrue(turns(high, (a, b)) or turns(low, (a, b)))

    def test_refusals(self):
        for call in (up_line, down_line):
            for wrong in (4, -1, True, False, None, "0"):
                self.fails(BadPlace("x"), call, ORDER, wrong, None)
            self.fails(BadSet(1), call, chain(1), 0, None)
            for value in NO_LISTS:
                self.fails(BadRow(-1), call, ORDER, 0, value)
            for line, place in (((0, 1), 2), ((0, 1, 3), 2), ((0, 0, 1), 1), ((0, 1, 2, 3), 3), ((), 0), ((True, 0, 2), 0)):
                self.fails(BadRow(place), call, ORDER, 0, line)
            self.fails(BadLine(0), call, ORDER, 0, (1, 0, 2))
            self.fails(BadLine(1), call, chain(4), 2, (0, 2, 1))

    def test_worths(self):
        for order in ORDERS:
            for weights in some_counts(order, 2, 5):
                value = worth(order, weights)
                for x in range(order.size):
                    fewer = worth(without(order, (x,)), tolls_without(order, weights, (x,)))
                    at_x = sum(number for a, b, number in weights if x in (a, b))
                    self.assertGreaterEqual(value, fewer)
                    self.assertGreaterEqual(2 * value, fewer + at_x)


class ChainTest(CostCase):
    """[79]."""

    def test_bound(self):
        enough = set()
        for order in ORDERS:
            chains = [chosen for many in range(order.size) for chosen in combinations(range(order.size), many)
                      if not any(order.are_open(x, y) for x, y in combinations(chosen, 2))]
            for tolls in some_tolls(order):
                for chosen in chains[::2]:
                    enough.add(self.bounded(order, tolls, chosen))
        self.assertEqual(enough, {True, False})

    def bounded(self, order, tolls, chosen):
        rest = rest_of(order, chosen)
        fewer = cost(order.on(rest), renumbered(tolls, rest))
        low = max([under(tolls, c) for c in chosen], default=0)
        high = max([over(tolls, c) for c in chosen], default=0)
        bound = self.told(chain_bound, order, tolls, chosen)
        self.assertEqual(bound, add_up(fewer, (low + high, 1)))
        self.assertEqual(chain_bound(order, tolls, list(chosen)[::-1]), bound)
        value = cost(order, tolls)
        self.assertTrue(is_at_most(value, bound))
        lows = [(x, c) for x, c, _ in tolls if c in chosen]
        highs = [(c, y) for c, y, _ in tolls if c in chosen]
        parted = not any(against(order, pair, other) for pair in lows for other in highs)
        if parted:
            self.assertTrue(is_at_most(value, add_up(fewer, (max(low, high), 1))))
        return parted

    def test_by_hand(self):
        tolls = Counts([(0, 1, 3), (1, 0, 4), (1, 2, 5), (2, 1, 6)])
        self.gives((7, 1), chain_bound, antichain(3), tolls.with_count(1, 2, 0).with_count(2, 1, 0), ())
        self.gives((11, 1), chain_bound, antichain(3), tolls, [1])
        self.gives((18, 1), chain_bound, antichain(3), tolls, (0,))
        # The one toll on the chain itself stands on both sides.
        self.gives((14, 1), chain_bound, chain(3), Counts([(2, 0, 7)]), (0, 2))

    def test_full_cost(self):
        for order in ORDERS + [standard(4)]:
            for chosen in list(combinations(range(order.size), 2)):
                if order.size > 2 and not order.are_open(*chosen):
                    fewer = full_cost(without(order, chosen))
                    self.assertTrue(is_at_most(full_cost(order), add_up(fewer, (2, 1))))

    def test_refusals(self):
        fit, unfit = Counts([(1, 0, 1)]), Counts([(0, 2, 1)])
        for value in NO_LISTS:
            self.fails(Unfit(0, 2), chain_bound, ORDER, unfit, value)
            self.fails(BadSet(-1), chain_bound, ORDER, fit, value)
        for value, place in (((4,), 0), ((0, 0), 1), ((2, True), 1)):
            self.fails(BadSet(place), chain_bound, ORDER, fit, value)
        for chosen, x, y in (((0, 1), 0, 1), ((2, 0, 3, 1), 0, 1), ((3, 2), 2, 3), ((0, 3), 0, 3), ((3, 2, 1), 2, 3)):
            self.fails(AreOpen(x, y), chain_bound, ORDER, fit, chosen)
        self.fails(BadSet(3), chain_bound, chain(3), fit, (2, 0, 1))
        self.fails(BadSet(1), chain_bound, chain(1), Counts(), (0,))
        self.fails(TooMany(30), chain_bound, antichain(8), Counts.at(all_pairs(antichain(8))[:45]), (7,))
        self.fails(TooMany(5000), chain_bound, antichain(14), Counts(), (0,))
        self.fails(TooMany(5000), chain_bound, antichain(13), Counts(), ())
        self.gives((0, 1), chain_bound, antichain(13), Counts(), (12,))
        self.gives((0, 1), chain_bound, chain(1), Counts(), ())


class CoupleTest(CostCase):
    """[88]."""

    def couples(self, order):
        return [(x, y) for x in order.bottoms() for y in order.tops() if order.are_open(x, y)]

    def test_bound(self):
        seen = 0
        for order in ORDERS + [antichain(3), antichain(4), standard(4)]:
            for x, y in self.couples(order)[:4]:
                self.gives_line(order, x, y)
                if order.size < 3:
                    continue
                for tolls in some_tolls(order):
                    seen += 1
                    rest = rest_of(order, (x, y))
                    a = max(over(tolls, x), under(tolls, y))
                    b = max(under(tolls, x), over(tolls, y))
                    fewer = cost(order.on(rest), renumbered(tolls, rest))
                    bound = self.told(couple_bound, order, tolls, x, y)
                    self.assertEqual(bound, add_up(greater_of(fewer, (b, 1)), (a, 1)))
                    self.assertTrue(is_at_most(cost(order, tolls), bound))
        self.assertGreater(seen, 100)

    def gives_line(self, order, x, y):
        line = self.told(couple_line, order, x, y)
        self.assertIs(type(line), tuple)
        self.assertTrue(is_line(order, line))
        turned = turned_by(line)
        for a, b in all_pairs(order):
            if a == x or b == y:
                self.assertIn((a, b), turned)

    def test_lines(self):
        self.gives((1, 0), couple_line, antichain(2), 0, 1)
        for order in [many_lines(), standard(8), antichain(16)]:
            for x, y in self.couples(order)[::7]:
                self.gives_line(order, x, y)

    def test_by_hand(self):
        tolls = Counts([(0, 1, 2), (1, 0, 3), (0, 2, 5), (2, 1, 1), (2, 0, 4)])
        self.gives((9, 1), couple_bound, antichain(3), tolls, 0, 1)
        self.gives((9, 1), couple_bound, antichain(3), tolls, 1, 0)

    def test_full_cost(self):
        for order in ORDERS + [standard(4), standard(5)]:
            if order.size < 4:
                continue
            for x, y in self.couples(order):
                fewer = full_cost(without(order, (x, y)))
                self.assertTrue(is_at_most(full_cost(order), add_up(fewer, (1, 1))))
        for many in range(3, 6):
            for i in range(many):
                fewer = full_cost(without(standard(many), (i, many + i)))
                self.assertEqual(full_cost(standard(many)), add_up(fewer, (1, 1)))

    def test_refusals(self):
        fit, unfit = Counts([(1, 0, 1)]), Counts([(0, 2, 1)])
        self.fails(Unfit(0, 2), couple_bound, ORDER, unfit, None, None)
        for call, more in ((couple_bound, (fit,)), (couple_line, ())):
            for wrong in (4, -1, True, False, None, "0", 2, 3):
                self.fails(BadPlace("x"), call, ORDER, *more, wrong, wrong)
            for wrong in (4, -1, True, False, None, "0", 0, 1):
                self.fails(BadPlace("y"), call, ORDER, *more, 0, wrong)
            for x, y in ((0, 2), (1, 2), (1, 3)):
                self.fails(NotOpen(x, y), call, ORDER, *more, x, y)
            self.fails(NotOpen(0, 0), call, antichain(2), *more, 0, 0)
        self.fails(NotOpen(0, 0), couple_line, chain(1), 0, 0)
        self.fails(NotOpen(0, 0), couple_bound, chain(1), Counts(), 0, 0)
        self.fails(BadSet(2), couple_bound, antichain(2), fit, 0, 1)
        self.fails(NotOpen(1, 1), couple_bound, antichain(2), fit, 1, 1)

    def test_bounds(self):
        self.gives((1, 1), couple_bound, antichain(14), Counts([(0, 1, 1)]), 0, 1)
        self.fails(TooMany(5000), couple_bound, antichain(15), Counts([(0, 1, 1)]), 0, 1)
        many = Counts.at(all_pairs(antichain(9)))
        self.fails(TooMany(30), couple_bound, antichain(9), many, 0, 1)
        self.gives((3, 1), couple_bound, antichain(8), Counts.at(all_pairs(antichain(8))), 0, 1)


if __name__ == "__main__":
    unittest.main()
