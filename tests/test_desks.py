"""linemix/desks.py, with [145] to [149]."""

import random
import unittest
from fractions import Fraction

from linemix.commons import flipped
from linemix.costs import best_mix, best_paper, cost, full_cost
from linemix.counts import Counts, kept_on
from linemix.desks import Desk, Trial
from linemix.errors import (
    BadNumber, BadPair, BadParts, BadPlace, BadSet, Crossing, MixError, NothingBack, NotOpen, TooMany, Unfit,
)
from linemix.evens import even_mix
from linemix.filling import filled_in, place_in
from linemix.leading import tight_pairs
from linemix.listings import listing
from linemix.numbers import is_at_most
from linemix.odds import odd_bound
from linemix.onemore import tolls_at, tolls_without, without
from linemix.orders import Order
from linemix.pairs import all_pairs, open_pairs
from linemix.products import with_ends
from linemix.putting import cross_counts, put_in
from linemix.shapes import antichain, bent, chain, crown, standard
from linemix.ties import tied, untied
from linemix.wholes import whole_cost
from linemix.widths import best_bound
from linemix.worths import worth
from tests.support import (
    NO_LISTS, ORDER, CostCase, few_counts, five_thousand_lower_sets, many_lines, small_orders, some_orders,
)

BIG = 10 ** 28
ORDERS = small_orders()[::11] + some_orders(4, 5, 5) + [bent(), ORDER]
NO_PLACES = (-1, 16, True, False, None, "0", 1.0, (0,))


def held(desk):
    """All that a desk holds."""
    return desk.now, desk.tolls_now, desk.weights_now, desk.deeds_done, desk.cost_now()


def desks(order):
    """Desks of an order with some tolls and weights, each with what it was made of."""
    for tolls, weights in zip(few_counts(order, 2, 5, 4), few_counts(order, 2, 4, BIG)):
        yield Desk(order, tolls=tolls, weights=weights), tolls, weights


class DeskCase(CostCase):
    def done(self, desk, name, *args):
        """Do a deed: it returns the new cost and counts as one more, and back undoes it just so."""
        before = held(desk)
        value = getattr(desk, name)(*args)
        self.assertEqual(value, cost(desk.now, desk.tolls_now))
        self.assertEqual(desk.cost_now(), value)
        self.assertEqual(desk.deeds_done, before[3] + 1)
        after = held(desk)
        self.assertEqual(desk.back(), before[4])
        self.assertEqual(held(desk), before)
        self.assertEqual(getattr(desk, name)(*args), value)
        self.assertEqual(held(desk), after)
        return value

    def refused(self, wanted, desk, name, *args):
        """A deed raises this error, and the desk stays as it was."""
        before = held(desk)
        self.fails(wanted, getattr(desk, name), *args)
        self.assertEqual(held(desk), before)


class MakingTest(DeskCase):
    def test_what_a_new_desk_holds(self):
        for order in ORDERS:
            for desk, tolls, weights in desks(order):
                self.assertEqual(held(desk), (order, tolls, weights, 0, cost(order, tolls)))
                self.questions(desk)
            for desk in (Desk(order), Desk(order, tolls=None, weights=None), Desk(order, tolls=Counts())):
                self.assertEqual(held(desk), (order, Counts(), Counts(), 0, (0, 1)))

    def questions(self, desk):
        """[147]: each question is answered by what the desk holds now, and changes nothing."""
        order, tolls, weights = desk.now, desk.tolls_now, desk.weights_now
        before = held(desk)
        self.gives(cost(order, tolls), desk.cost_now)
        self.gives(worth(order, weights), desk.worth_now)
        self.gives(full_cost(order), desk.full_now)
        self.gives(best_mix(order, tolls), desk.mix_now)
        self.gives(best_paper(order, tolls), desk.paper_now)
        if len(tolls) <= 12 and tolls.total_count() <= 24:
            self.gives(whole_cost(order, tolls), desk.whole_now)
        self.gives(tight_pairs(order), desk.tight_now)
        self.gives(even_mix(order) is not None, desk.is_even_now)
        odd = (0, 1) if order.is_chain() else odd_bound(order)
        self.gives((best_bound(order), odd), desk.bounds_now)
        self.assertEqual(held(desk), before)

    def test_questions_of_edges(self):
        for order in (chain(1), chain(4), antichain(4), standard(3), bent(), crown(4, reach=1)):
            self.questions(Desk(order))
        self.assertEqual([Desk(chain(3)).is_even_now(), Desk(standard(3)).is_even_now()], [True, False])
        self.assertEqual([Desk(chain(3)).bounds_now(), Desk(bent()).bounds_now()[1]], [(1, (0, 1)), (5, 2)])
        order = antichain(5)
        desk = Desk(order, tolls=Counts.at(all_pairs(order)[:13]))
        self.fails(TooMany(12), desk.whole_now)
        self.fails(TooMany(24), Desk(chain(2), tolls=Counts([(1, 0, 25)])).whole_now)
        self.fails(TooMany(30), Desk(antichain(7)).full_now)

    def test_refusals_in_their_order(self):
        unfit = Counts([(0, 2, 1), (1, 2, 1)])
        self.fails(Unfit(0, 2), Desk, ORDER, tolls=unfit, weights=Counts([(1, 1, 1)]))
        self.fails(Unfit(1, 1), Desk, ORDER, tolls=Counts([(1, 0, 1)]), weights=Counts([(1, 1, 1)]))
        order = antichain(7)
        many = Counts.at(all_pairs(order)[:31])
        self.fails(TooMany(30), Desk, order, tolls=many)
        self.fails(Unfit(0, 0), Desk, order, tolls=many, weights=Counts([(0, 0, 1)]))
        self.assertEqual(Desk(order, weights=many).worth_now(), worth(order, many))
        self.fails(TooMany(5000), Desk, antichain(13))
        self.fails(TooMany(5000), Desk, antichain(13), weights=Counts([(1, 0, 1)]))
        self.fails(Unfit(0, 0), Desk, antichain(13), weights=Counts([(0, 0, 1)]))
        with self.assertRaises(TypeError):
            Desk(order, Counts())


class DeedsTest(DeskCase):
    def test_tie_and_untie(self):
        # [145], [149]
        for order in ORDERS:
            for x, y in open_pairs(order)[::3]:
                for desk, tolls, weights in desks(order):
                    made = tied(order, (x, y))
                    value = self.done(desk, "tie", x, y)
                    self.assertEqual(held(desk)[:3], (made, kept_on(made, tolls), kept_on(made, weights)))
                    left = Fraction(*cost(order, kept_on(made, tolls)))
                    self.assertTrue(left <= Fraction(*value) <= 2 * left)
            for x, y in order.next_steps()[:2]:
                for desk, tolls, weights in desks(order):
                    old = Fraction(*desk.cost_now())
                    value = Fraction(*self.done(desk, "untie", x, y))
                    self.assertEqual(held(desk)[:3], (untied(order, x, y), tolls, weights))
                    self.assertTrue(value <= old <= 2 * value - tolls[y, x])

    def test_left_out_for_good(self):
        desk = Desk(antichain(2), tolls=Counts([(0, 1, 3), (1, 0, 2)]), weights=Counts([(0, 1, 7), (1, 0, 1)]))
        self.assertEqual(desk.tie(0, 1), (2, 1))
        self.assertEqual(desk.untie(0, 1), (2, 1))
        self.assertEqual((desk.tolls_now, desk.weights_now), (Counts([(1, 0, 2)]), Counts([(1, 0, 1)])))
        # What is put back by back has the counts that were left out.
        self.assertEqual([desk.back(), desk.back()], [(2, 1), (5, 1)])
        self.assertEqual(desk.weights_now, Counts([(0, 1, 7), (1, 0, 1)]))

    def test_put_place(self):
        for order in ORDERS:
            dice = random.Random(f"places {order.steps_told()}")
            for desk, tolls, weights in desks(order):
                old = desk.cost_now()
                below = dice.sample(range(order.size), dice.randint(0, order.size))
                above = [y for y in range(order.size) if all(order.is_below(x, y) for x in below)]
                for lows, highs in ((below, above), ([], list(order.tops())), (list(order.bottoms()), []), ([], [])):
                    if any(not order.is_below(x, y) for x in lows for y in highs):
                        continue
                    self.assertEqual(self.done(desk, "put_place", lows, tuple(highs)), old)
                    n = order.size
                    made = desk.now
                    self.assertEqual((made.size, desk.tolls_now, desk.weights_now), (n + 1, tolls, weights))
                    self.assertEqual(made.on(list(range(n))), order)
                    under = {z for z in range(n) if any(order.is_under(z, x) for x in lows)}
                    over = {z for z in range(n) if any(order.is_under(y, z) for y in highs)}
                    self.assertEqual((set(made.below(n)), set(made.above(n))), (under, over))
                    desk.back()

    def test_drop_place(self):
        # [149]
        for order in ORDERS:
            for x in range(order.size):
                if order.size == 1:
                    continue
                for desk, tolls, weights in desks(order):
                    old = Fraction(*desk.cost_now())
                    value = Fraction(*self.done(desk, "drop_place", x))
                    self.assertEqual(held(desk)[:3], (without(order, [x]), tolls_without(order, tolls, [x]),
                                                      tolls_without(order, weights, [x])))
                    a, b = tolls_at(order, tolls, x)
                    self.assertTrue(value <= old <= max(value, min(a, b)) + max(a, b))

    def test_set_counts(self):
        # [149]
        for order in ORDERS:
            for desk, tolls, weights in desks(order):
                for x, y in all_pairs(order)[::3]:
                    for number in (0, 1, 9, BIG):
                        old = Fraction(*desk.cost_now())
                        before = desk.tolls_now
                        value = Fraction(*self.done(desk, "set_toll", x, y, number))
                        self.assertEqual(desk.tolls_now, before.with_count(x, y, number))
                        change = number - before[x, y]
                        self.assertTrue(min(0, change) <= value - old <= max(0, change))
                        kept = desk.weights_now
                        self.assertEqual(Fraction(*self.done(desk, "set_weight", x, y, number)), value)
                        self.assertEqual((desk.weights_now, desk.now), (kept.with_count(x, y, number), order))

    def test_put_part(self):
        parts = [chain(1), chain(2), antichain(2), standard(2), bent()]
        for order in ORDERS:
            for x in range(order.size):
                part = parts[x % 5]
                for desk, tolls, weights in desks(order):
                    old = desk.cost_now()
                    listed = [part if place == x else chain(1) for place in range(order.size)]
                    counts = cross_counts(order, listed, tolls)
                    if len(counts) > 30:
                        self.refused(TooMany(30), desk, "put_part", x, part)
                        continue
                    self.assertEqual(self.done(desk, "put_part", x, part), old)
                    self.assertEqual(held(desk)[:3], (put_in(order, listed), counts, cross_counts(order, listed, weights)))

    def test_ends_turn_and_fill(self):
        for order in ORDERS:
            for desk, tolls, weights in desks(order):
                old = desk.cost_now()
                self.assertEqual(self.done(desk, "add_ends"), old)
                up = [Counts([(x + 1, y + 1, number) for x, y, number in counts]) for counts in (tolls, weights)]
                self.assertEqual(held(desk)[:3], (with_ends(order), *up))
                desk.back()
                self.assertEqual(self.done(desk, "turn"), old)
                self.assertEqual(held(desk)[:3], (~order, flipped(tolls), flipped(weights)))
                desk.back()
                try:
                    made = filled_in(order)
                except TooMany:
                    self.refused(TooMany(16), desk, "fill")
                    continue
                self.assertEqual(self.done(desk, "fill"), old)
                numbers = [place_in(order, x) for x in range(order.size)]
                moved = [Counts([(numbers[x], numbers[y], number) for x, y, number in counts])
                         for counts in (tolls, weights)]
                self.assertEqual(held(desk)[:3], (made, *moved))

    def test_deeds_that_change_nothing(self):
        desk = Desk(antichain(2), tolls=Counts([(0, 1, 3)]))
        for name, args in (("set_toll", (0, 1, 3)), ("set_weight", (0, 1, 0)), ("put_part", (0, chain(1)))):
            self.assertEqual(self.done(desk, name, *args), (3, 1))
        self.assertEqual(desk.deeds_done, 3)
        self.assertEqual([desk.back(), desk.back(), desk.back(), desk.deeds_done], [(3, 1), (3, 1), (3, 1), 0])

    def test_fourteen_to_sixteen_places(self):
        for size in (14, 15, 16):
            order = chain(size - 4) + chain(4)
            desk = Desk(order, tolls=Counts([(0, size - 1, 3)]))
            for name, args, most in (("add_ends", (), 14), ("put_place", ([0], []), 15), ("put_part", (0, chain(2)), 15),
                                     ("put_part", (0, chain(1)), 16), ("put_part", (0, antichain(3)), 14)):
                if size <= most:
                    self.assertEqual(self.done(desk, name, *args), (3, 1))
                    desk.back()
                else:
                    self.refused(TooMany(16), desk, name, *args)
            self.done(desk, "turn")
            desk.back()
            # Two chains get a least and a greatest closed set.
            if size == 14:
                self.assertEqual(self.done(desk, "fill"), (3, 1))
                self.assertEqual(desk.now.size, 16)
            else:
                self.refused(TooMany(16), desk, "fill")
        self.assertEqual(Desk(chain(16)).fill(), (0, 1))


class RefusalsTest(DeskCase):
    def test_places(self):
        desk = Desk(ORDER, tolls=Counts([(1, 0, 2)]))
        desk.set_toll(0, 1, 1)
        for name in ("tie", "untie"):
            for wrong in NO_PLACES:
                self.refused(BadPlace("x"), desk, name, wrong, wrong)
                self.refused(BadPlace("y"), desk, name, 0, wrong)
        for x, y in ((0, 2), (2, 0), (0, 0), (3, 1)):
            self.refused(NotOpen(x, y), desk, "tie", x, y)
        for x, y in ((0, 1), (2, 0), (0, 0), (0, 3)):
            self.refused(NotOpen(x, y), desk, "untie", x, y)
        self.refused(NotOpen(0, 2), Desk(chain(3)), "untie", 0, 2)
        for wrong in NO_PLACES + (4,):
            self.refused(BadPlace("x"), desk, "drop_place", wrong)
            self.refused(BadPlace("x"), desk, "put_part", wrong, antichain(16))
        self.refused(BadPlace("x"), Desk(chain(1)), "drop_place", 0)

    def test_put_place(self):
        desk = Desk(ORDER)
        for value in NO_LISTS:
            self.refused(BadSet(-1), desk, "put_place", value, None)
            self.refused(BadSet(-1), desk, "put_place", [3], value)
        for value, place in (((0, 4), 1), ([1, 1], 1), ((True,), 0), ((0, None), 1)):
            self.refused(BadSet(place), desk, "put_place", value, (9,))
            self.refused(BadSet(place), desk, "put_place", (3,), value)
        self.refused(Crossing(0, 0), desk, "put_place", [1, 0], [2, 0])
        self.refused(Crossing(0, 3), desk, "put_place", (1, 0), (3, 2))
        self.refused(Crossing(1, 0), desk, "put_place", (1,), (2, 0, 3))
        self.refused(Crossing(2, 0), desk, "put_place", (2,), (0,))
        full = Desk(chain(16))
        self.refused(Crossing(3, 3), full, "put_place", (3,), (3,))
        self.refused(TooMany(16), full, "put_place", (3,), (4,))
        self.refused(BadSet(0), full, "put_place", (16,), None)

    def test_counts(self):
        desk = Desk(ORDER, tolls=Counts([(1, 0, 2)]))
        for name in ("set_toll", "set_weight"):
            for x, y in ((0, 2), (1, 1), (0, 4), (-1, 0), (True, 0), (0, None), ("0", 1), (1, 3)):
                self.refused(BadPair(-1), desk, name, x, y, None)
            for wrong in (-1, None, True, False, "1", 1.0):
                self.refused(BadNumber("number"), desk, name, 1, 0, wrong)

    def test_errors_of_the_new_cost(self):
        # [146]
        order = antichain(7)
        pairs = all_pairs(order)
        desk = Desk(order, tolls=Counts.at(pairs[:30]))
        self.refused(TooMany(30), desk, "set_toll", *pairs[30], 1)
        self.done(desk, "set_toll", *pairs[3], 5)
        self.done(desk, "set_weight", *pairs[30], 5)
        self.refused(TooMany(30), desk, "put_part", 0, chain(2))
        wide = Desk(antichain(12), tolls=Counts([(0, 1, 4)]))
        self.refused(TooMany(5000), wide, "put_place", [], [])
        self.refused(TooMany(5000), wide, "put_part", 3, antichain(2))
        self.refused(TooMany(5000), wide, "put_place", [0, 1], [])
        self.assertEqual(self.done(wide, "put_place", [0, 1, 2], []), (4, 1))
        self.refused(TooMany(5000), wide, "untie", 0, 12)
        self.refused(TooMany(16), Desk(crown(6, reach=1)), "fill")
        many = Desk(five_thousand_lower_sets(), tolls=Counts([(0, 1, 4)]))
        self.refused(TooMany(5000), many, "put_place", [], [])
        self.refused(TooMany(16), many, "add_ends")
        self.assertEqual(many.turn(), (4, 1))

    def test_nothing_back(self):
        desk = Desk(ORDER)
        self.refused(NothingBack(), desk, "back")
        desk.turn()
        desk.back()
        self.refused(NothingBack(), desk, "back")


def random_deed(dice, desk):
    """A deed that may be right or wrong, as a tuple of its name and arguments."""
    size = desk.now.size
    place = [dice.randrange(size) for _ in range(3)]
    number = dice.choice([0, 1, 2, 5, BIG])
    return dice.choice([
        ("tie", place[0], place[1]), ("untie", *dice.choice(desk.now.next_steps() or ((0, 0),))),
        ("put_place", [place[0]], [place[1]] if desk.now.is_below(place[0], place[1]) else []),
        ("drop_place", place[0]), ("set_toll", place[0], place[1], number), ("set_weight", place[0], place[1], number),
        ("put_part", place[0], dice.choice([chain(2), antichain(2), chain(1)])), ("add_ends",), ("turn",), ("fill",),
        ("back",), ("set_toll", place[0], place[2], 3),
    ])


class RowsOfDeedsTest(DeskCase):
    def test_any_deeds(self):
        # [147]: behind any deeds, also refused ones and ones taken back, a desk answers as a new one.
        for seed in range(12):
            dice = random.Random(f"deeds {seed}")
            order = dice.choice(ORDERS)
            desk = Desk(order, tolls=few_counts(order, 1, 3, 3)[0], weights=few_counts(order, 1, 3, 3)[0])
            states = [held(desk)]
            for _ in range(25):
                name, *args = random_deed(dice, desk)
                if desk.now.size > 8 and name in ("put_part", "add_ends", "fill", "put_place"):
                    name, args = "back", []
                before = held(desk)
                try:
                    value = getattr(desk, name)(*args)
                except MixError:
                    self.assertEqual(held(desk), before)
                    continue
                if name == "back":
                    states.pop()
                    self.assertEqual(held(desk), states[-1])
                else:
                    self.assertEqual(desk.deeds_done, len(states))
                    states.append(held(desk))
                self.assertEqual(value, desk.cost_now())
                self.as_new(desk)
            while len(states) > 1:
                states.pop()
                desk.back()
                self.assertEqual(held(desk), states[-1])
            self.fails(NothingBack(), desk.back)

    def as_new(self, desk):
        new = Desk(desk.now, tolls=desk.tolls_now, weights=desk.weights_now)
        self.assertEqual(held(desk)[:3] + held(desk)[4:], held(new)[:3] + held(new)[4:])
        for name in ("cost_now", "worth_now", "full_now", "mix_now", "paper_now", "whole_now", "tight_now",
                     "is_even_now", "bounds_now"):
            answers = []
            for one in (desk, new):
                try:
                    answers.append(getattr(one, name)())
                except MixError as error:
                    answers.append((type(error), vars(error)))
            self.assertEqual(*answers, name)
        self.assertEqual(listing(desk), listing(new))

    def test_nothing_is_kept_of_lists(self):
        desk = Desk(antichain(3))
        below, above = [0], []
        desk.put_place(below, above)
        below.append(1)
        above.append(2)
        self.assertEqual(desk.now, Order(4, [(0, 3)]))
        deed = ["put_place", [0], [3]]
        desk.trial(deed)
        deed[1].append(3)
        self.assertEqual(desk.now, Order(4, [(0, 3)]))
        kept = desk.now
        desk.tie(1, 2)
        self.assertEqual(kept, Order(4, [(0, 3)]))

    def test_two_hundred_deeds(self):
        desk = Desk(antichain(2))
        for number in range(200):
            desk.set_toll(0, 1, number)
        self.assertEqual([desk.deeds_done, desk.cost_now()], [200, (199, 1)])
        for number in range(198, -1, -1):
            self.assertEqual(desk.back(), (number, 1))
        self.assertEqual([desk.back(), desk.deeds_done], [(0, 1), 0])

    def test_many_lines(self):
        order = many_lines()
        desk = Desk(order, tolls=few_counts(order, 1, 12, 2)[0], weights=few_counts(order, 1, 30, BIG)[0])
        self.done(desk, "turn")
        self.done(desk, "drop_place", 3)
        self.done(desk, "tie", *open_pairs(desk.now)[4])
        self.as_new(desk)

    def test_example(self):
        desk = Desk(Order(3, [(0, 1)]), tolls=Counts([(2, 0, 1), (1, 2, 3)]))
        self.assertEqual([desk.cost_now(), desk.tie(1, 2), desk.back(), desk.deeds_done], [(3, 1), (1, 1), (3, 1), 0])
        self.assertEqual(desk.trial(("set_toll", 2, 1, 2), ("put_place", [1], []), ("back",), ("back",)),
                         [(5, 1), (5, 1), (5, 1), (3, 1)])


class TrialOfDeedsTest(DeskCase):
    def test_trials(self):
        # [148]
        for seed in range(10):
            dice = random.Random(f"trials {seed}")
            order = dice.choice(ORDERS)
            tolls = few_counts(order, 1, 4, 3)[0]
            desk, other = Desk(order, tolls=tolls), Desk(order, tolls=tolls)
            for one in (desk, other):
                one.turn()
            costs, deeds = [], []
            for _ in range(8):
                name, *args = random_deed(dice, other)
                try:
                    costs.append(getattr(other, name)(*args))
                except MixError:
                    continue
                deeds.append((name, *args) if len(deeds) % 2 else [name, *args])
            before = held(desk)
            self.assertEqual(self.told(desk.trial, *deeds), costs)
            self.assertEqual(held(desk), before)

    def test_a_deed_that_raises(self):
        desk = Desk(antichain(3), tolls=Counts([(0, 1, 3)]))
        desk.set_toll(1, 0, 1)
        before = held(desk)
        self.fails(NotOpen(1, 0), desk.trial, ("tie", 0, 1), ("tie", 1, 0))
        self.assertEqual(held(desk), before)
        self.fails(NothingBack(), desk.trial, ("back",), ("back",), ("turn",))
        self.assertEqual(held(desk), before)
        self.fails(TooMany(16), desk.trial, ("turn",), ("put_part", 0, antichain(15)))
        self.assertEqual(held(desk), before)
        self.assertEqual(desk.trial(), [])
        # It may go back behind its beginning; the deeds are there again at its end.
        self.assertEqual(desk.trial(("back",), ("turn",)), [(3, 1), (3, 1)])
        self.assertEqual(held(desk), before)

    def test_refusals(self):
        desk = Desk(antichain(3), tolls=Counts([(0, 1, 3)]))
        before = held(desk)
        for wrong in (None, 1, "turn", {"turn": 1}, {"turn"}, (), [], (1,), (None,), ("Turn",), ("cost_now",), ("trial",),
                      ("_do", "turn", ()), ("now",), ("begin",), (["turn"],), ("turn", 1), ("tie", 0), ("tie", 0, 1, 2),
                      ("untie",), ("put_place", []), ("drop_place",), ("set_toll", 0, 1), ("set_weight", 0, 1, 2, 3),
                      ("put_part", 0), ("add_ends", None), ("fill", 0), ("back", 1), (True, 0, 1), ("",)):
            self.fails(BadParts(0), desk.trial, wrong)
            # Ahead of doing any: the first deed would raise another error.
            self.fails(BadParts(1), desk.trial, ("tie", 9, 9), wrong)
            self.fails(BadParts(2), desk.trial, ("turn",), ["turn"], wrong, ("tie", 9, 9))
            self.assertEqual(held(desk), before)
        for name, args in (("tie", (0, 1)), ("set_weight", (0, 1, 4)), ("put_place", ([], [])), ("drop_place", (2,)),
                           ("put_part", (0, chain(2))), ("add_ends", ()), ("turn", ()), ("fill", ()),
                           ("set_toll", (0, 1, 4))):
            self.assertEqual(desk.trial((name, *args)), [getattr(Desk(antichain(3), tolls=Counts([(0, 1, 3)])), name)(*args)])
        self.assertEqual(desk.trial(("tie", 0, 1), ["untie", 0, 1]), [(0, 1), (0, 1)])


class TrialTest(DeskCase):
    def test_with(self):
        desk = Desk(antichain(3), tolls=Counts([(0, 1, 3), (1, 0, 1)]))
        desk.set_weight(0, 1, 5)
        before = held(desk)
        trial = Trial(desk)
        self.assertIs(trial.desk, desk)
        with trial as inner:
            self.assertIs(inner, trial)
            desk.tie(0, 1)
            desk.back()
            desk.back()
            desk.turn()
            self.assertNotEqual(held(desk), before)
        self.assertEqual(held(desk), before)
        with self.assertRaises(KeyError):
            with Trial(desk):
                desk.drop_place(0)
                raise KeyError
        self.assertEqual(held(desk), before)
        with self.assertRaises(NotOpen):
            with Trial(desk):
                desk.turn()
                desk.tie(0, 0)
        self.assertEqual(held(desk), before)

    def test_keep(self):
        desk = Desk(antichain(3), tolls=Counts([(0, 1, 3)]))
        with Trial(desk) as inner:
            desk.tie(0, 1)
            self.assertIsNone(inner.keep())
            desk.turn()
        self.assertEqual([desk.deeds_done, desk.now], [2, Order(3, [(1, 0)])])
        self.assertEqual([desk.back(), desk.back()], [(0, 1), (3, 1)])

    def test_begin_and_finish(self):
        desk = Desk(antichain(3), tolls=Counts([(0, 1, 3)]))
        trial = Trial(desk)
        desk.turn()
        after = held(desk)
        # Nothing is remembered yet.
        self.assertIsNone(trial.finish())
        self.assertEqual(held(desk), after)
        self.assertIsNone(trial.begin())
        desk.turn()
        # Begin anew: what was remembered before is gone.
        trial.begin()
        desk.add_ends()
        self.assertIsNone(trial.finish())
        self.assertEqual(desk.deeds_done, 2)
        desk.turn()
        # Finish twice: the second one does nothing.
        trial.finish()
        self.assertEqual(desk.deeds_done, 3)
        trial.begin()
        trial.keep()
        desk.turn()
        trial.finish()
        self.assertEqual(desk.deeds_done, 4)

    def test_trials_within_trials(self):
        desk = Desk(antichain(3), tolls=Counts([(0, 1, 3)]))
        start = held(desk)
        with Trial(desk):
            desk.tie(1, 2)
            middle = held(desk)
            with Trial(desk) as inner:
                desk.back()
                desk.turn()
                self.assertEqual(desk.trial(("turn",), ("back",)), [(3, 1), (3, 1)])
                with Trial(desk) as innermost:
                    desk.add_ends()
                    innermost.keep()
                self.assertEqual(desk.now.size, 5)
                self.assertIsNot(inner, innermost)
            self.assertEqual(held(desk), middle)
            desk.turn()
        self.assertEqual(held(desk), start)
        # The same Trial again, and one that is kept within one that is not.
        again = Trial(desk)
        with again:
            desk.turn()
        with again:
            desk.turn()
            with Trial(desk) as inner:
                desk.turn()
                inner.keep()
            self.assertEqual(desk.deeds_done, 2)
        self.assertEqual(held(desk), start)

    def test_two_desks(self):
        one, other = Desk(antichain(2)), Desk(chain(2))
        with Trial(one):
            one.tie(0, 1)
            other.turn()
        self.assertEqual([one.deeds_done, other.deeds_done], [0, 1])

    def test_costs_stay(self):
        # [149]: these deeds leave the cost as it is, one behind the other.
        for order in ORDERS:
            for desk, tolls, _ in desks(order):
                if order.size > 4:
                    continue
                value = desk.cost_now()
                self.assertEqual(desk.trial(("turn",), ("put_place", [0], []), ("add_ends",), ("turn",),
                                            ("put_part", 0, chain(2)), ("turn",)),
                                 [value] * 6)
                self.assertTrue(is_at_most((tolls.greatest_count(), 1), value))


if __name__ == "__main__":
    unittest.main()
