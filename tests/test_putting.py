"""linemix/putting.py, with [61] to [66]."""

import random
import unittest
from itertools import product

from linemix.costs import best_mix, cost, full_cost, tight_ones
from linemix.counts import Counts
from linemix.errors import BadMix, BadParts, BadPlace, BadRates, TooMany, Unfit
from linemix.families import table_of
from linemix.leading import tight_pairs
from linemix.lots import most_at_once
from linemix.mixes import Mix
from linemix.numbers import greater_of, is_at_most
from linemix.orders import Order
from linemix.pairs import all_pairs
from linemix.putting import (
    cross_counts, inner_counts, inner_mix, part_place, parts_at, put_cost, put_in, put_worth, spread_counts,
)
from linemix.rates import rate_bound
from linemix.shapes import antichain, bent, chain, standard
from linemix.wholes import dimension, whole_cost
from linemix.worths import worth
from tests.support import (
    NO_LISTS, ORDER, CostCase, few_counts, five_thousand_lower_sets, orders_of, some_counts, some_orders,
)

PARTS = (chain(2), chain(1), antichain(2), chain(1))


def some_put_ins(many, most):
    """The same orders with parts on every run, of at most so many places together."""
    dice = random.Random(f"put in {many} {most}")
    found = []
    while len(found) < many:
        order = dice.choice(orders_of(dice.randint(1, 3)))
        parts = [dice.choice(orders_of(dice.randint(1, 3))) for _ in range(order.size)]
        if sum(part.size for part in parts) <= most:
            found.append((order, parts))
    return found


def starts_of(parts):
    return [sum(part.size for part in parts[:at]) for at in range(len(parts))]


def plain_put_in(order, parts):
    """put_in by its words."""
    places = [(x, u) for x, part in enumerate(parts) for u in range(part.size)]
    steps = [(low, high) for low, (x, u) in enumerate(places) for high, (y, v) in enumerate(places)
             if (x == y and parts[x].is_below(u, v)) or (x != y and order.is_below(x, y))]
    return Order(len(places), steps)


def crossing(parts, x, y):
    """All cross pairs from part x to part y."""
    starts = starts_of(parts)
    return [(starts[x] + u, starts[y] + v) for u in range(parts[x].size) for v in range(parts[y].size)]


def put_tolls(order, parts, tolls, inner):
    """The sum of cross_counts and of inner_counts of each part."""
    made = cross_counts(order, parts, tolls)
    for x, counts in enumerate(inner):
        made = made + inner_counts(parts, x, counts)
    return made


def tolls_for(order, parts, most=4):
    """Tolls of the order and of the parts."""
    return few_counts(order, 1, 3, most)[0], [few_counts(part, 1, 2, most)[0] for part in parts]


CASES = some_put_ins(40, 7)


class PutInTest(CostCase):
    def test_by_its_words(self):
        for order, parts in CASES + [(ORDER, PARTS), (chain(1), [bent()]), (chain(2), [antichain(8), antichain(8)])]:
            made = self.told(put_in, order, parts)
            self.assertEqual(made, plain_put_in(order, parts))
            self.assertEqual(put_in(order, tuple(parts)), made)

    def test_shapes(self):
        self.assertEqual(put_in(chain(2), [antichain(2), chain(3)]), antichain(2) >> chain(3))
        self.assertEqual(put_in(antichain(2), [standard(2), chain(3)]), standard(2) + chain(3))
        self.assertEqual(put_in(bent(), [chain(1)] * 6), bent())
        self.assertEqual(put_in(chain(1), [chain(16)]), chain(16))

    def test_upside_down(self):
        for order, parts in CASES:
            self.assertEqual(~put_in(order, parts), put_in(~order, [~part for part in parts]))

    def test_numbers(self):
        for order, parts in CASES + [(ORDER, PARTS)]:
            number = 0
            for x, part in enumerate(parts):
                for u in range(part.size):
                    self.gives(number, part_place, parts, x, u)
                    self.gives((x, u), parts_at, parts, number)
                    number += 1
            self.fails(BadPlace("number"), parts_at, parts, number)


class CountsTest(CostCase):
    def test_cross_counts(self):
        for order, parts in CASES + [(ORDER, PARTS)]:
            for counts in some_counts(order, 2, 5):
                made = self.told(cross_counts, order, parts, counts)
                wanted = {pair: number for x, y, number in counts for pair in crossing(parts, x, y)}
                self.assertEqual(list(made), [(a, b, wanted[a, b]) for a, b in sorted(wanted)])

    def test_inner_counts(self):
        for order, parts in CASES + [(ORDER, PARTS)]:
            for x, part in enumerate(parts):
                for counts in some_counts(part, 2, 5):
                    made = self.told(inner_counts, parts, x, counts)
                    start = starts_of(parts)[x]
                    self.assertEqual(list(made), [(start + u, start + v, number) for u, v, number in counts])

    def test_spread_counts(self):
        dice = random.Random("loads")
        for order, parts in CASES + [(ORDER, PARTS)]:
            loads = [[dice.randint(0, 3) for _ in range(part.size)] for part in parts]
            loads = [value if sum(value) else [1] * len(value) for value in loads]
            flat = [load for value in loads for load in value]
            for counts in some_counts(order, 2, 5):
                made = self.told(spread_counts, order, parts, counts, loads)
                wanted = {(a, b): number * flat[a] * flat[b] for x, y, number in counts for a, b in crossing(parts, x, y)}
                self.assertEqual(list(made), [(a, b, wanted[a, b]) for a, b in sorted(wanted) if wanted[a, b]])


class PutCostTest(CostCase):
    """[63]."""

    def test_is_the_cost_of_the_sum(self):
        for order, parts in CASES:
            for most in (4, 1):
                tolls, inner = tolls_for(order, parts, most)
                made = put_tolls(order, parts, tolls, inner)
                if len(made) > 30:
                    continue
                value = self.told(put_cost, order, tolls, parts, inner)
                self.shown(put_in(order, parts), made, value)
                ends = [cost(order, tolls)] + [cost(part, counts) for part, counts in zip(parts, inner)]
                self.assertIn(value, ends)
                self.assertTrue(all(is_at_most(end, value) for end in ends))
                if len(made) <= 12 and made.total_count() <= 24:
                    wholes = [whole_cost(order, tolls)] + [whole_cost(part, counts) for part, counts in zip(parts, inner)]
                    self.assertEqual(whole_cost(put_in(order, parts), made), max(wholes))

    def test_best_mixes_make_a_best_mix(self):
        for order, parts in CASES:
            tolls, inner = tolls_for(order, parts)
            made = put_tolls(order, parts, tolls, inner)
            mix = self.told(inner_mix, order, parts, best_mix(order, tolls),
                            [best_mix(part, counts) for part, counts in zip(parts, inner)])
            self.lines_pay(put_in(order, parts), mix, made)
            self.assertEqual(mix.total, put_cost(order, tolls, parts, inner))

    def test_full_cost_and_dimension(self):
        for order, parts in CASES + [(standard(3), [chain(2), chain(1), chain(1), chain(1), antichain(2), chain(1)]),
                                     (antichain(2), [standard(3), bent()])]:
            made = put_in(order, parts)
            if len(tight_pairs(made)) <= 30:
                wanted = full_cost(order)
                for part in parts:
                    wanted = greater_of(wanted, full_cost(part))
                self.assertEqual(full_cost(made), wanted)
            if max(len(tight_pairs(told)) for told in [made, order, *parts]) <= 12:
                self.assertEqual(dimension(made), max(dimension(told) for told in [order, *parts]))

    def test_without_inner_tolls(self):
        for order, parts in CASES:
            for tolls in few_counts(order, 2, 3, 4):
                made = cross_counts(order, parts, tolls)
                if len(made) > 30:
                    continue
                self.assertEqual(cost(put_in(order, parts), made), cost(order, tolls))
                if len(tolls):
                    _, family, counts = table_of(order, tolls)
                    bound = rate_bound(family, counts, range_of_rates(family))
                    self.assertTrue(is_at_most(cost(put_in(order, parts), made), bound))

    def test_many_inner_tolls(self):
        # Each part has 30 tolls at most, all parts together more.
        parts = [antichain(6), antichain(6), chain(4)]
        inner = [Counts.ones(antichain(6)), Counts.ones(antichain(6)) * 3, Counts.ones(chain(4)) * 5]
        self.gives((6, 1), put_cost, antichain(3), Counts([(0, 1, 2)]), parts, inner)
        self.gives((10 ** 28 + 10 ** 12, 1), put_cost, antichain(3), Counts([(0, 1, 10 ** 28), (1, 0, 10 ** 12)]),
                   parts, inner)


def range_of_rates(family):
    return [at + 1 for at in range(family.points)]


class AnyTollsTest(CostCase):
    """[64]."""

    def test_ends(self):
        for order, parts in CASES:
            made = put_in(order, parts)
            starts = starts_of(parts)
            for tolls in few_counts(made, 1, 8, 4) + few_counts(made, 1, 4, 3):
                value = cost(made, tolls)
                inner = []
                for part, start in zip(parts, starts):
                    inner.append(Counts([(u - start, v - start, toll) for u, v, toll in tolls
                                         if start <= u < start + part.size and start <= v < start + part.size]))
                    self.assertTrue(is_at_most(cost(part, inner[-1]), value))
                cross = Counts([(x, y, max([tolls[pair] for pair in crossing(parts, x, y)]))
                                for x, y in all_pairs(order)])
                self.assertTrue(is_at_most(value, put_cost(order, cross, parts, inner)))
                for chosen in list(product(*[range(part.size) for part in parts]))[:4]:
                    spots = [start + u for start, u in zip(starts, chosen)]
                    between = Counts([(x, y, tolls[spots[x], spots[y]]) for x, y in all_pairs(order)])
                    self.assertTrue(is_at_most(cost(order, between), value))
                    alone = Counts([(spots[x], spots[y], toll) for x, y, toll in between])
                    self.assertEqual(cost(made, alone), cost(order, between))
                for x, counts in enumerate(inner):
                    self.assertEqual(cost(made, inner_counts(parts, x, counts)), cost(parts[x], counts))


class PutWorthTest(CostCase):
    """[65]."""

    def test_is_the_worth_of_the_sum(self):
        dice = random.Random("worths")
        for order, parts in CASES + [(ORDER, PARTS)]:
            loads = [[dice.randint(0, 3) for _ in range(part.size - 1)] + [1] for part in parts]
            for most in (4, 1):
                weights = some_counts(order, 1, most)[0]
                inner = [some_counts(part, 1, most)[0] for part in parts]
                made = spread_counts(order, parts, weights, loads)
                for x, counts in enumerate(inner):
                    made = made + inner_counts(parts, x, counts)
                number = self.told(put_worth, order, parts, weights, loads, inner)
                self.assertIs(type(number), int)
                self.assertEqual(number, worth(put_in(order, parts), made))

    def test_lots(self):
        for order, parts in CASES[::2]:
            made = put_in(order, parts)
            lot = all_pairs(order)[::2]
            spread = [pair for x, y in lot for pair in crossing(parts, x, y)]
            starts = starts_of(parts)
            most = worth(order, Counts([(x, y, parts[x].size * parts[y].size) for x, y in lot]))
            for x, part in enumerate(parts):
                inner = all_pairs(part)[1:]
                spread += [(starts[x] + u, starts[x] + v) for u, v in inner]
                most += most_at_once(part, inner)
            if len(spread) <= 12:
                self.assertEqual(most_at_once(made, spread), most)

    def test_by_hand(self):
        weights = Counts([(0, 1, 2), (1, 0, 3)])
        loads = [[1, 2], (0, 4)]
        self.gives(3 * 3 * 4 + 5 + 7, put_worth, antichain(2), [chain(2), antichain(2)], weights, loads,
                   [Counts([(1, 0, 5)]), Counts([(0, 1, 7), (1, 0, 6)])])
        self.assertEqual(list(spread_counts(antichain(2), [chain(2), antichain(2)], weights, loads)),
                         [(0, 3, 8), (1, 3, 16), (3, 0, 12), (3, 1, 24)])


class AboveAndBesideTest(CostCase):
    """[66]."""

    def test_above(self):
        for low, high in zip(some_orders(12, 2, 4), some_orders(12, 1, 3)):
            tolls = few_counts(low >> high, 1, 8, 4)[0]
            size = low.size
            within = Counts([(x, y, toll) for x, y, toll in tolls if x < size and y < size])
            above = Counts([(x - size, y - size, toll) for x, y, toll in tolls if x >= size and y >= size])
            sure = max([toll for x, y, toll in tolls if x >= size > y], default=0)
            wanted = greater_of(greater_of(cost(low, within), cost(high, above)), (sure, 1))
            self.shown(low >> high, tolls, wanted)
            if tolls.total_count() <= 24:
                self.assertEqual(whole_cost(low >> high, tolls),
                                 max(whole_cost(low, within), whole_cost(high, above), sure))

    def test_beside(self):
        for first, second in zip(some_orders(12, 1, 3), some_orders(12, 2, 3)):
            for over, back in ((1, 1), (3, 0), (2, 5), (0, 0)):
                within, beside = few_counts(first, 1, 3, 6)[0], few_counts(second, 1, 3, 6)[0]
                cross = Counts([(0, 1, over), (1, 0, back)])
                made = put_tolls(antichain(2), [first, second], cross, [within, beside])
                wanted = greater_of(greater_of(cost(first, within), cost(second, beside)), (over + back, 1))
                self.shown(first + second, made, wanted)
                if len(made) <= 12 and made.total_count() <= 24:
                    self.assertEqual(whole_cost(first + second, made),
                                     max(whole_cost(first, within), whole_cost(second, beside), over + back))


class InnerMixTest(CostCase):
    def test_any_mixes(self):
        dice = random.Random("mixes")
        for order, parts in CASES:
            told = [self.some_mix(dice, told) for told in [order, *parts]]
            made = self.told(inner_mix, order, parts, told[0], told[1:])
            self.assertTrue(made.holds_in(put_in(order, parts)))
            total = (0, 1)
            for mix in told:
                total = greater_of(total, mix.total)
            self.assertEqual(made.total, total)
            starts = starts_of(parts)
            for x, y in all_pairs(order):
                for a, b in crossing(parts, x, y):
                    self.assertTrue(is_at_most(told[0].share(x, y), made.share(a, b)))
            for x, part in enumerate(parts):
                for u, v in all_pairs(part):
                    share = told[x + 1].share(u, v)
                    self.assertTrue(is_at_most(share, made.share(starts[x] + u, starts[x] + v)))

    def some_mix(self, dice, order):
        lines = list(best_mix(order, few_counts(order, 1, 4, 3)[0])) + list(best_mix(order, tight_ones(order)))
        chosen = dice.sample(lines, dice.randint(0, len(lines)))
        return Mix(dice.randint(1, 4), [(line, dice.randint(1, 5)) for line, _ in chosen])

    def test_no_lines(self):
        for mixes in ([Mix(5, ()), Mix(2, [])], (Mix(1, ()), Mix(9, ()))):
            made = self.told(inner_mix, antichain(2), [chain(2), antichain(2)], Mix(3, []), mixes)
            self.assertEqual((list(made), made.total), ([], (0, 1)))
        made = self.told(inner_mix, antichain(2), [chain(2), antichain(2)], Mix(3, []), [Mix(2, [((0, 1), 3)]), Mix(1, ())])
        self.assertEqual(made.total, (3, 2))
        self.assertTrue(made.holds_in(chain(2) + antichain(2)))


class RefusalsTest(CostCase):
    """[62]."""

    # The functions with an order and parts, with the other arguments right for antichain(2) and two parts of one place.
    ONES = [Counts(), Counts()]
    LOADS = [[1], [1]]
    CALLS = (
        (put_in, lambda order, parts: (order, parts)),
        (cross_counts, lambda order, parts: (order, parts, Counts())),
        (put_cost, lambda order, parts: (order, Counts(), parts, [Counts()] * order.size)),
        (spread_counts, lambda order, parts: (order, parts, Counts(), [[1] * part.size for part in parts])),
        (put_worth, lambda order, parts: (order, parts, Counts(), [[1] * part.size for part in parts],
                                          [Counts()] * order.size)),
        (inner_mix, lambda order, parts: (order, parts, Mix(1, ()), [Mix(1, ())] * order.size)),
    )
    ALONE = ((part_place, (0, 0)), (parts_at, (0,)), (inner_counts, (0, Counts())))

    def wrong_parts(self, parts, place):
        for call, args in (
            (put_in, (parts,)), (cross_counts, (parts, None)), (put_cost, (Counts(), parts, None)),
            (spread_counts, (parts, None, None)), (put_worth, (parts, None, None, None)),
            (inner_mix, (parts, None, None)),
        ):
            args = (antichain(2),) + args
            self.fails(BadParts(place), call, *args)

    def test_parts(self):
        one = chain(1)
        for value in NO_LISTS + (one,):
            self.wrong_parts(value, -1)
            self.fails(BadParts(-1), part_place, value, None, None)
            self.fails(BadParts(-1), parts_at, value, None)
            self.fails(BadParts(-1), inner_counts, value, None, None)
        for parts, place in (([one, 1], 1), ([None, one], 0), ([one], 1), ([one] * 3, 3), ([], 0), ((), 0),
                             ([one, one, True], 2), ([one, [one]], 1), ([Counts(), one], 0)):
            self.wrong_parts(parts, place)
        for parts, place in (([one, 1], 1), ([None], 0), ([], 0), ((), 0), ([one, one, Counts()], 2)):
            self.fails(BadParts(place), part_place, parts, None, None)
            self.fails(BadParts(place), parts_at, parts, None)
            self.fails(BadParts(place), inner_counts, parts, None, None)

    def test_too_many_places(self):
        for parts in ([chain(8), chain(9)], (antichain(16), chain(1)), [chain(16), antichain(16)]):
            for call, args in self.CALLS:
                self.fails(TooMany(16), call, *args(antichain(2), parts))
            for call, args in self.ALONE:
                self.fails(TooMany(16), call, parts, *args)
        parts = [antichain(8), chain(8)]
        for call, args in self.CALLS:
            self.assertIsNotNone(call(*args(antichain(2), parts)))
        for call, args in self.ALONE:
            self.assertIsNotNone(call(parts, *args))

    def test_too_many_places_comes_behind_other_arguments(self):
        parts = [chain(8), chain(9)]
        order = antichain(2)
        unfit = Counts([(0, 0, 1)])
        inner_unfit = Counts([(0, 1, 1)])
        inner = [Counts(), Counts()]
        loads = [[1] * 8, [1] * 9]
        self.fails(BadPlace("x"), part_place, parts, 2, 0)
        self.fails(BadPlace("u"), part_place, parts, 0, 8)
        self.gives(8, part_place, [chain(8), chain(8)], 1, 0)
        self.fails(BadPlace("number"), parts_at, parts, 17)
        self.fails(TooMany(16), parts_at, parts, 16)
        self.fails(BadPlace("x"), inner_counts, parts, 2, inner_unfit)
        self.fails(Unfit(0, 1), inner_counts, parts, 1, inner_unfit)
        self.fails(Unfit(0, 0), cross_counts, order, parts, unfit)
        self.fails(Unfit(0, 0), put_cost, order, unfit, None, None)
        self.fails(BadParts(1), put_cost, order, Counts(), parts, [Counts(), 3])
        self.fails(Unfit(0, 1), put_cost, order, Counts(), parts, [Counts(), inner_unfit])
        self.fails(Unfit(0, 0), spread_counts, order, parts, unfit, None)
        self.fails(BadRates(1), spread_counts, order, parts, Counts(), [[1] * 8, [1] * 8])
        self.fails(Unfit(0, 0), put_worth, order, parts, unfit, None, None)
        self.fails(BadRates(-1), put_worth, order, parts, Counts(), None, None)
        self.fails(BadParts(-1), put_worth, order, parts, Counts(), loads, None)
        self.fails(Unfit(0, 1), put_worth, order, parts, Counts(), loads, [Counts(), inner_unfit])
        self.fails(TooMany(16), put_worth, order, parts, Counts(), loads, inner)
        self.fails(BadMix(0), inner_mix, order, parts, Mix(1, [((0, 1, 2), 1)]), None)
        self.fails(BadParts(-1), inner_mix, order, parts, Mix(1, ()), None)
        self.fails(BadParts(0), inner_mix, order, parts, Mix(1, ()), [Mix(1, [((0,), 1)]), Mix(1, ())])

    def test_places(self):
        parts = [chain(2), antichain(3)]
        for wrong in (2, -1, True, False, None, "0"):
            self.fails(BadPlace("x"), part_place, parts, wrong, 9)
            self.fails(BadPlace("x"), inner_counts, parts, wrong, None)
        for wrong in (3, -1, True, None):
            self.fails(BadPlace("u"), part_place, parts, 1, wrong)
        for wrong in (5, -1, True, None, (0, 0)):
            self.fails(BadPlace("number"), parts_at, parts, wrong)

    def test_unfit(self):
        parts = [chain(2), antichain(3)]
        order = chain(2)
        wrong = Counts([(0, 1, 2), (1, 0, 1)])
        self.fails(Unfit(0, 1), cross_counts, order, parts, wrong)
        self.fails(Unfit(0, 1), put_cost, order, wrong, parts, [Counts(), Counts()])
        self.fails(Unfit(0, 1), spread_counts, order, parts, wrong, [[1, 1], [1, 1, 1]])
        self.fails(Unfit(0, 1), put_worth, order, parts, wrong, [[1, 1], [1, 1, 1]], [Counts(), Counts()])
        self.fails(Unfit(0, 1), inner_counts, parts, 0, wrong)
        self.fails(Unfit(3, 0), inner_counts, parts, 1, Counts([(3, 0, 1)]))
        # In the numbers of the part.
        for call, args in ((put_cost, (order, Counts(), parts)), (put_worth, (order, parts, Counts(), [[1, 1], [1] * 3]))):
            self.fails(Unfit(0, 1), call, *args, [wrong, Counts([(4, 4, 1)])])
            self.fails(Unfit(0, 3), call, *args, [Counts(), Counts([(0, 3, 1)])])

    def test_inner(self):
        parts = [chain(2), antichain(3)]
        fit = Counts([(1, 0, 1)])
        for call, args in ((put_cost, (antichain(2), Counts(), parts)),
                           (put_worth, (antichain(2), parts, Counts(), [[1, 1], [1] * 3]))):
            for value in NO_LISTS + (fit,):
                self.fails(BadParts(-1), call, *args, value)
            for value, place in (([fit, 1], 1), ([None, fit], 0), ([fit], 1), ([], 0), ([fit] * 3, 3),
                                 ([fit, fit, None], 2), ([fit, []], 1)):
                self.fails(BadParts(place), call, *args, value)

    def test_loads(self):
        parts = [chain(2), antichain(3)]
        for call, args in ((spread_counts, (antichain(2), parts, Counts())),
                           (put_worth, (antichain(2), parts, Counts()))):
            more = ([Counts(), Counts()],) if call == put_worth else ()
            for value in NO_LISTS:
                self.fails(BadRates(-1), call, *args, value, *more)
            for value, place in (
                ([[1, 1], [1, 1]], 1), ([[1, 1, 1], [1, 1, 1]], 0), ([[0, 0], [1, 1, 1]], 0), ([[1, 0], [0, 0, 0]], 1),
                ([[1, -1], [1, 1, 1]], 0), ([[3, -1], [1, 1, 1]], 0), ([[1, True], [1, 1, 1]], 0), ([[1, 1], None], 1), ([[1, 1], 3], 1),
                ([[1, 1]], 1), ([], 0), ([[1, 1], [1, 1, 1], [1]], 3), ([[1, 1], [1, 1, 1], None], 3), ([None], 0),
                ([[1, "1"], [1, 1, 1]], 0), ([[1, 1], {0, 1, 2}], 1), ([[1, 1.0], [1, 1, 1]], 0),
            ):
                self.fails(BadRates(place), call, *args, value, *more)

    def test_mixes(self):
        parts = [chain(2), antichain(2)]
        order = antichain(2)
        right = Mix(1, [((0, 1), 1)])
        wrong = Mix(1, [((1, 0), 1)])
        for rows, place in (([((0,), 1)], 0), ([((0, 1, 2), 1)], 0), ([((1, 0, 2), 1), ((0, 1, 2), 5)], 0)):
            self.fails(BadMix(place), inner_mix, order, parts, Mix(1, rows), None)
        self.fails(BadMix(1), inner_mix, chain(2), parts, Mix(1, [((0, 1), 1), ((1, 0), 1)]), None)
        self.fails(BadMix(0), inner_mix, chain(2), parts, Mix(2, [((1, 0), 1)]), [])
        for value in NO_LISTS + (right,):
            self.fails(BadParts(-1), inner_mix, order, parts, right, value)
        for value, place in (([right, None], 1), ([wrong, right], 0), ([right, Mix(1, [((0,), 1)])], 1), ([right], 1),
                             ([], 0), ([right, wrong, None], 3), ([right, wrong, wrong], 3), ([wrong], 0),
                             ([Counts(), right], 0), ((1,), 0)):
            self.fails(BadParts(place), inner_mix, order, parts, right, value)
        self.assertEqual(inner_mix(order, parts, right, (right, wrong)).total, (1, 1))

    def test_bounds_of_the_costs(self):
        # Asked in P, then in the parts in turn.
        many = Counts.at(all_pairs(antichain(7))[:31])
        parts = [antichain(7), antichain(7)]
        self.fails(TooMany(30), put_cost, antichain(2), Counts(), parts, [Counts(), many])
        self.fails(TooMany(30), put_cost, antichain(7), many, [chain(1)] * 7, [Counts()] * 7)
        self.fails(TooMany(5000), put_cost, antichain(13), Counts(), [chain(1)] * 13, [Counts()] * 13)
        self.fails(TooMany(5000), put_cost, chain(1), Counts(), [antichain(13)], [Counts()])
        self.fails(TooMany(5000), put_cost, chain(2), Counts(), [antichain(13), chain(3)], [Counts(), Counts()])
        self.fails(TooMany(5000), put_worth, chain(1), [antichain(13)], Counts(), [[1] * 13], [Counts()])
        self.fails(TooMany(5000), put_worth, antichain(13), [chain(1)] * 13, Counts(), [[1]] * 13, [Counts()] * 13)
        wide = Counts.at(all_pairs(antichain(13))[:31])
        self.fails(TooMany(30), put_cost, chain(2), Counts(), [antichain(13), chain(1)], [wide, Counts()])
        self.assertEqual(put_worth(chain(1), [antichain(7)], Counts(), [[1] * 7], [Counts.ones(antichain(7))]), 21)
        more = five_thousand_lower_sets()
        self.gives((0, 1), put_cost, chain(1), Counts(), [more], [Counts()])
        self.fails(TooMany(5000), put_cost, chain(1), Counts(), [more >> chain(1)], [Counts()])


if __name__ == "__main__":
    unittest.main()
