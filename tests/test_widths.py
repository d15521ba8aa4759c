"""linemix/widths.py, with [80] to [83]."""

import unittest
from itertools import combinations, permutations

from linemix.chains import width
from linemix.costs import cost, full_cost
from linemix.counts import Counts
from linemix.errors import BadPlace, NotOpen, TooMany, Unfit
from linemix.leading import tight_pairs
from linemix.mixes import Mix
from linemix.numbers import is_at_most
from linemix.orders import Order
from linemix.rates import lot_bound
from linemix.rings import ring_around
from linemix.shapes import antichain, bent, chain, crown, stacked, standard
from linemix.wholes import dimension, whole_cost
from linemix.widths import (
    best_bound, clear_two, half_bound, is_bent, is_standard, load_bound, load_mix, number_bound, tops_bound,
)
from tests.support import (
    ORDER, CostCase, few_counts, five_thousand_lower_sets, many_lines, small_orders, some_counts, some_orders,
)

BIG = 10 ** 30
ORDERS = small_orders() + some_orders(25, 5, 6) + [bent(), standard(3)]
BOUNDS = (width, number_bound, half_bound, tops_bound, lot_bound)


def is_clear(order, line):
    """Whether a line is clear, by the words of [76]."""
    return not any(line.index(u) < line.index(z) < line.index(v) and order.are_open(z, u) and order.are_open(z, v)
                   for u, v in order for z in range(order.size) if z not in (u, v))


def plain_width(order):
    """The size of the greatest antichains, by a look at all sets."""
    return max(many for many in range(1, order.size + 1) for chosen in combinations(range(order.size), many)
               if all(order.are_open(x, y) for x, y in combinations(chosen, 2)))


def renumbered_order(order, row):
    return Order(order.size, [(row[low], row[high]) for low, high in order])


def some_rows(size, many):
    rows = list(permutations(range(size))) if size <= 6 else [
        tuple((at * factor + many) % size for at in range(size)) for factor in range(1, size) if size % factor or factor == 1]
    return [row for row in rows[::max(1, len(rows) // many)] if len(set(row)) == size]


class LoadsTest(CostCase):
    """[80]."""

    def test_bounds_and_mixes(self):
        for order in ORDERS[::2]:
            for tolls in some_counts(order, 1, 4) + few_counts(order, 1, 4, 9) + [Counts()]:
                self.loaded(order, tolls)

    def loaded(self, order, tolls):
        for upper in (False, True):
            loads = [max([toll for x, y, toll in tolls if (x if upper else y) == place], default=0)
                     for place in range(order.size)]
            bound = self.told(load_bound, order, tolls, upper=upper)
            if order.size <= 6:
                self.assertEqual(bound, max(sum(loads[place] for place in chosen) for chosen in antichains(order)))
            self.assertIs(type(bound), int)
            mix = self.told(load_mix, order, tolls, upper=upper)
            self.lines_pay(order, mix, tolls)
            self.assertEqual(mix.total, (bound, 1))
            if len(tolls) <= 30 and order.size <= 12:
                self.assertTrue(is_at_most(cost(order, tolls), (bound, 1)))
            if len(tolls) <= 12 and tolls.total_count() <= 24:
                self.assertLessEqual(whole_cost(order, tolls), bound)

    def test_lower_is_the_default(self):
        tolls = Counts([(0, 1, 3), (1, 0, 4), (2, 0, 9)])
        self.gives(12, load_bound, antichain(3), tolls)
        self.gives(12, load_bound, antichain(3), tolls, upper=False)
        self.gives(16, load_bound, antichain(3), tolls, upper=True)
        self.assertEqual(load_mix(antichain(3), tolls).total, (12, 1))
        self.assertEqual(load_mix(antichain(3), tolls, upper=True).total, (16, 1))

    def test_no_tolls(self):
        for order in (chain(1), antichain(16), ORDER):
            self.gives(0, load_bound, order, Counts())
            mix = self.told(load_mix, order, Counts(), upper=True)
            self.assertEqual((list(mix), mix.total), ([], (0, 1)))

    def test_no_bound_is_asked(self):
        for order in (antichain(16), many_lines(), standard(8), five_thousand_lower_sets() >> chain(1)):
            self.loaded(order, Counts.ones(order) * BIG)
        self.gives(16, load_bound, antichain(16), Counts.ones(antichain(16)))

    def test_rings_and_standard_orders(self):
        for many in range(2, 9):
            tolls = Counts.at(ring_around(antichain(many), tuple(range(many))))
            self.gives((many, many - 1), cost, antichain(many), tolls)
            self.gives(many, load_bound, antichain(many), tolls)
            self.gives(many, load_bound, antichain(many), tolls, upper=True)
            tight = Counts([(i, many + i, 1) for i in range(many)])
            self.gives((many, 1), cost, standard(many), tight)
            self.gives(many, load_bound, standard(many), tight)
            self.gives(many, load_bound, standard(many), tight, upper=True)

    def test_full_cost_and_dimension(self):
        for order in ORDERS:
            self.assertTrue(is_at_most(full_cost(order), (width(order), 1)))
            if len(tight_pairs(order)) <= 12:
                self.assertLessEqual(dimension(order), width(order))

    def test_unfit(self):
        for call in (load_bound, load_mix):
            for upper in (False, True):
                self.fails(Unfit(0, 2), call, ORDER, Counts([(0, 2, 1), (1, 2, 1)]), upper=upper)
                self.fails(Unfit(1, 1), call, antichain(16), Counts([(1, 1, 1)]), upper=upper)


def antichains(order):
    return [chosen for many in range(order.size + 1) for chosen in combinations(range(order.size), many)
            if all(order.are_open(x, y) for x, y in combinations(chosen, 2))]


class BoundsTest(CostCase):
    """[81] to [83]."""

    def test_by_their_words(self):
        for order in ORDERS + [chain(16), antichain(7), standard(4), many_lines()]:
            size = order.size
            wide = plain_width(order) if size <= 8 else width(order)
            least = {1: 0}.get(size, 1) if order.is_chain() else None
            self.gives(max(2, size - wide) if least is None else least, number_bound, order)
            self.gives(max(2, size // 2) if least is None else least, half_bound, order)
            tops = order.tops()
            rest = [place for place in range(size) if place not in tops]
            wanted = 1 + width(order.on(rest)) if rest else 2 if size > 1 else 0
            self.gives(wanted, tops_bound, order)
            told = [width(order), number_bound(order), half_bound(order), tops_bound(order), tops_bound(~order),
                    lot_bound(order), lot_bound(~order)]
            self.gives(min(told), best_bound, order)

    def test_by_hand(self):
        for order, numbers in (
            (chain(1), (0, 0, 0, 0)), (chain(2), (1, 1, 2, 1)), (chain(16), (1, 1, 2, 1)), (antichain(2), (2, 2, 2, 2)),
            (antichain(16), (2, 8, 2, 2)), (standard(4), (4, 4, 5, 4)), (bent(), (3, 3, 3, 3)), (ORDER, (2, 2, 3, 2)),
            (stacked([1, 3]), (2, 2, 2, 2)), (stacked([3, 1]), (2, 2, 4, 2)),
        ):
            self.gives(numbers[0], number_bound, order)
            self.gives(numbers[1], half_bound, order)
            self.gives(numbers[2], tops_bound, order)
            self.gives(numbers[3], best_bound, order)

    def test_each_one_may_alone_be_the_least(self):
        # All but half_bound: the width or the number less the width is never more.
        two_levels = Order(10, [(0, 4), (0, 7), (0, 8), (1, 5), (1, 6), (1, 8), (2, 4), (2, 5), (2, 9), (3, 6), (3, 7),
                                (3, 9)])
        orders = some_orders(300, 4, 9) + [two_levels]
        orders = orders + [~order for order in orders]
        lacking = set(range(7))
        for order in orders:
            told = [width(order), number_bound(order), half_bound(order), tops_bound(order), tops_bound(~order),
                    lot_bound(order), lot_bound(~order)]
            self.assertEqual(best_bound(order), min(told))
            if told.count(min(told)) == 1:
                lacking.discard(told.index(min(told)))
        self.assertEqual(lacking, {2})

    def test_bound_full_costs(self):
        for order in ORDERS + some_orders(20, 7, 8) + [standard(4)]:
            if len(tight_pairs(order)) > 30:
                continue
            value = full_cost(order)
            for bound in BOUNDS + (best_bound,):
                self.assertTrue(is_at_most(value, (bound(order), 1)))
                self.assertTrue(is_at_most(value, (bound(~order), 1)))
            if len(tight_pairs(order)) <= 12:
                for bound in (width, number_bound, half_bound, tops_bound):
                    self.assertLessEqual(dimension(order), bound(order))
                    self.assertLessEqual(dimension(order), bound(~order))

    def test_five_and_six_places(self):
        # [83]
        for order in some_orders(60, 5, 5):
            self.assertTrue(is_at_most(full_cost(order), (2, 1)))
        six = some_orders(150, 6, 6) + [standard(3), bent(), ~bent()]
        six += [renumbered_order(order, row) for order in (standard(3), bent(), ~bent()) for row in some_rows(6, 5)]
        for order in six:
            value = full_cost(order)
            self.assertEqual(value == (3, 1), is_standard(order))
            self.assertEqual(value == (5, 2), is_bent(order))
            self.assertTrue(value in ((3, 1), (5, 2)) or is_at_most(value, (2, 1)))


class ClearTwoTest(CostCase):
    """[81]."""

    def test_all_small_ones(self):
        seen = 0
        for order in small_orders() + nearly_antichains():
            for u, v in list(permutations(range(order.size), 2))[::1 if order.size < 5 else 3]:
                rest = [place for place in range(order.size) if place not in (u, v)]
                bound = [(x, y) for x, y in combinations(rest, 2) if not order.are_open(x, y)]
                if bound:
                    self.fails(NotOpen(*bound[0]), clear_two, order, u, v)
                    continue
                line = self.told(clear_two, order, u, v)
                self.assertIs(type(line), tuple)
                self.assertEqual(sorted(line), list(range(order.size)))
                self.assertTrue(all(line.index(low) < line.index(high) for low, high in order))
                self.assertTrue(is_clear(order, line))
                seen += 1
        self.assertGreater(seen, 300)

    def test_refusals(self):
        for wrong in (4, -1, True, False, None, "0"):
            self.fails(BadPlace("u"), clear_two, ORDER, wrong, wrong)
            self.fails(BadPlace("v"), clear_two, ORDER, 0, wrong)
        self.fails(BadPlace("v"), clear_two, ORDER, 2, 2)
        self.fails(BadPlace("v"), clear_two, chain(1), 0, 0)
        self.fails(NotOpen(2, 3), clear_two, chain(4), 1, 0)
        self.fails(NotOpen(0, 2), clear_two, chain(4), 3, 1)
        self.gives((0, 1), clear_two, chain(2), 1, 0)


def nearly_antichains():
    """Orders in which all places but two are an antichain, of up to 16 places."""
    found = []
    for seed in range(300):
        size = 5 + seed % 4 if seed else 16
        kinds = [(seed * (place + 3) * (place + 7) // 5 + place) % 9 for place in range(2, size)]
        steps = [(0, 1)] if seed % 3 == 0 else []
        for place, kind in enumerate(kinds, 2):
            steps += {0: [], 1: [(place, 0)], 2: [(0, place)], 3: [(place, 1)], 4: [(1, place)], 5: [(place, 0), (place, 1)],
                      6: [(0, place), (1, place)], 7: [(0, place), (place, 1)], 8: []}[kind]
        try:
            order = Order(size, steps)
        except ValueError:
            continue
        if all(order.are_open(x, y) for x, y in combinations(range(2, size), 2)):
            found.append(renumbered_order(order, [(at + seed) % size for at in range(size)]))
    return found


class ShapesTest(CostCase):
    def test_is_standard(self):
        for many in range(2, 9):
            for row in some_rows(2 * many, 4):
                self.gives(True, is_standard, renumbered_order(standard(many), row))
                self.gives(True, is_standard, ~renumbered_order(standard(many), row))
        for order in (chain(1), chain(2), antichain(2), antichain(6), bent(), crown(4, reach=1), chain(6), ORDER,
                      standard(3) + chain(1), standard(3) >> chain(2), Order(4, [(0, 1)]), chain(3) + chain(3),
                      Order(4, [(0, 2), (0, 3), (1, 2), (1, 3)]), stacked([3, 3]), crown(8, reach=1)):
            self.gives(False, is_standard, order)

    def test_is_bent(self):
        for row in some_rows(6, 40):
            self.gives(True, is_bent, renumbered_order(bent(), row))
            self.gives(True, is_bent, renumbered_order(~bent(), row))
        for order in (chain(1), chain(6), antichain(6), standard(3), bent() + chain(1), crown(3), ORDER,
                      Order(6, [(0, 1), (1, 2), (0, 2), (3, 4), (4, 2), (3, 2), (0, 5)])):
            self.gives(False, is_bent, order)

    def test_by_a_look_at_all_renumberings(self):
        kinds = {"standard": set(), "bent": set()}
        for row in permutations(range(6)):
            kinds["standard"].add(renumbered_order(standard(3), row).steps_told())
            kinds["bent"].add(renumbered_order(bent(), row).steps_told())
            kinds["bent"].add(renumbered_order(~bent(), row).steps_told())
        near = [Order(6, [other for other in order.next_steps() if other != step])
                for order in (standard(3), bent(), ~bent()) for step in order.next_steps()]
        for order in some_orders(200, 6, 6) + near:
            self.assertEqual(is_standard(order), order.steps_told() in kinds["standard"])
            self.assertEqual(is_bent(order), order.steps_told() in kinds["bent"])
        two = {renumbered_order(standard(2), row).steps_told() for row in permutations(range(4))}
        for order in small_orders():
            self.gives(order.size == 4 and order.steps_told() in two, is_standard, order)
            self.gives(False, is_bent, order)

    def test_full_cost_of_standard_orders(self):
        for many in range(2, 9):
            self.gives((many, 1), full_cost, standard(many))
        self.gives((5, 2), full_cost, bent())
        self.fails(TooMany(30), full_cost, antichain(7))
        self.assertIs(type(load_mix(ORDER, Counts([(1, 0, 1)]))), Mix)


if __name__ == "__main__":
    unittest.main()
