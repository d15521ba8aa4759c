"""linemix/series.py, with [67]."""

import random
import unittest
from itertools import permutations

from linemix.costs import full_cost
from linemix.counts import Counts
from linemix.errors import BadNumber, BadParts, TooMany
from linemix.lines import is_line
from linemix.numbers import is_at_most
from linemix.orders import Order
from linemix.pairs import open_pairs, sure_pairs
from linemix.putting import cross_counts
from linemix.series import Above, Beside, Leaf, Node, is_series, series_lines
from linemix.shapes import antichain, bent, chain, crown, stacked, standard
from linemix.wholes import whole_cost
from tests.support import CostCase, orders_of, small_orders, some_orders

BIG = 10 ** 30
METHODS = ("size_of", "series_order", "series_tolls", "series_cost", "words")


def some_node(dice, many, most):
    """A node of at least one and at most so many places, with tolls of at most most."""
    if many < 2 or dice.random() < 0.15:
        return Leaf()
    toll = lambda: dice.choice([0, 1, dice.randint(0, most)])
    if dice.random() < 0.5:
        cut = dice.randint(1, many - 1)
        return Beside(some_node(dice, cut, most), some_node(dice, many - cut, most), over=toll(), back=toll())
    cuts = sorted(dice.sample(range(1, many), dice.randint(1, min(3, many - 1))))
    sizes = [end - begin for begin, end in zip([0] + cuts, cuts + [many])]
    return Above(*[some_node(dice, size, most) for size in sizes], toll=toll())


def some_nodes(number, many, most):
    dice = random.Random(f"nodes {number} {many} {most}")
    return [some_node(dice, dice.randint(1, many), most) for _ in range(number)]


def renamed_equal(one, other):
    """Whether one order is the other one after renumbering, by a look at all ways."""
    if one.size != other.size:
        return False
    steps = set(other.steps_told())
    return any({(row[low], row[high]) for low, high in one} == steps for row in permutations(range(one.size)))


def orders_of_nodes(size):
    """The orders of all nodes of so many places."""
    if size == 1:
        return [Leaf().series_order()]
    couples = [(first, second) for cut in range(1, size)
               for first in orders_of_nodes(cut) for second in orders_of_nodes(size - cut)]
    return [first >> second for first, second in couples] + [first + second for first, second in couples]


NODES = some_nodes(60, 8, 5)


class KindsTest(CostCase):
    def test_leaf(self):
        leaf = Leaf()
        self.assertIsInstance(leaf, Node)
        self.gives(1, leaf.size_of)
        self.assertEqual(self.told(leaf.series_order), chain(1))
        self.assertEqual(self.told(leaf.series_tolls), Counts())
        self.gives(0, leaf.series_cost)
        self.gives("1", leaf.words)
        self.gives([(0,)], series_lines, leaf)

    def test_above(self):
        node = Above(Leaf(), Beside(Leaf(), Leaf(), over=3, back=1), Leaf(), toll=2)
        self.assertIsInstance(node, Node)
        self.gives(4, node.size_of)
        self.assertEqual(self.told(node.series_order), stacked([1, 2, 1]))
        self.assertEqual(list(self.told(node.series_tolls)), [(1, 0, 2), (1, 2, 3), (2, 0, 2), (2, 1, 1), (3, 0, 2),
                                                              (3, 1, 2), (3, 2, 2)])
        self.gives(4, node.series_cost)
        self.gives("(1 < (1 , 1) < 1)", node.words)

    def test_beside(self):
        node = Beside(Above(Leaf(), Leaf(), toll=BIG), Leaf(), over=2, back=5)
        self.assertIsInstance(node, Node)
        self.gives(3, node.size_of)
        self.assertEqual(self.told(node.series_order), chain(2) + chain(1))
        self.assertEqual(list(self.told(node.series_tolls)),
                         [(0, 2, 2), (1, 0, BIG), (1, 2, 2), (2, 0, 5), (2, 1, 5)])
        self.gives(BIG, node.series_cost)
        self.gives("((1 < 1) , 1)", node.words)

    def test_example(self):
        pile = Above(Leaf(), Leaf(), toll=4)
        node = Above(Leaf(), Beside(Leaf(), pile, over=2, back=1))
        self.assertEqual([node.words(), list(node.series_tolls()), node.series_cost()],
                         ["(1 < (1 , (1 < 1)))", [(1, 2, 2), (1, 3, 2), (2, 1, 1), (3, 1, 1), (3, 2, 4)], 4])

    def test_tolls_left_out_are_none(self):
        node = Beside(Above(Leaf(), Leaf()), Above(Leaf(), Leaf()))
        self.assertEqual((len(node.series_tolls()), node.series_cost()), (0, 0))
        self.assertEqual(Beside(Leaf(), Leaf(), back=4).series_cost(), 4)
        self.assertEqual(list(Beside(Leaf(), Leaf(), back=4).series_tolls()), [(1, 0, 4)])
        self.assertEqual(list(Beside(Leaf(), Leaf(), over=4).series_tolls()), [(0, 1, 4)])

    def test_methods_stand_in_each_kind(self):
        for kind in (Leaf, Above, Beside):
            for name in METHODS:
                self.assertIn(name, vars(kind))

    def test_one_node_at_several_places(self):
        leaf = Leaf()
        couple = Beside(leaf, leaf, over=1, back=2)
        node = Above(couple, couple, Beside(couple, leaf), couple, toll=1)
        self.assertEqual(node.size_of(), 9)
        self.assertEqual(node.series_order(), stacked([2, 2, 3, 2]))
        self.assertEqual(node.series_cost(), 3)
        self.assertEqual(node.words(), "((1 , 1) < (1 , 1) < ((1 , 1) , 1) < (1 , 1))")
        doubled = Leaf()
        for _ in range(4):
            doubled = Beside(doubled, doubled, over=1)
        self.assertEqual(doubled.series_order(), antichain(16))
        self.fails(TooMany(16), Beside, doubled, doubled)
        self.fails(TooMany(16), Above, doubled, Leaf())

    def test_deep(self):
        node = Leaf()
        for at in range(15):
            node = Above(node, Leaf(), toll=at) if at % 2 else Beside(Leaf(), node, over=at)
        self.assertEqual(node.size_of(), 16)
        self.assertEqual(node.series_order().size, 16)
        self.assertEqual(node.series_cost(), 14)


class RefusalsTest(CostCase):
    def test_no_nodes(self):
        leaf = Leaf()
        for wrong in (None, 1, True, "1", chain(1), [leaf], (leaf,), Leaf):
            self.fails(BadParts(0), Above, wrong, toll=-1)
            self.fails(BadParts(1), Above, leaf, wrong, None, toll=-1)
            self.fails(BadParts(0), Beside, wrong, None, over=-1)
            self.fails(BadParts(1), Beside, leaf, wrong, over=-1)
        self.fails(BadParts(0), Above)
        self.fails(BadParts(1), Above, leaf)
        self.fails(BadParts(1), Above, leaf, toll=-1)

    def test_tolls(self):
        leaf = Leaf()
        big = Above(*[leaf] * 16)
        for wrong in (-1, True, False, None, "1", 1.0, (1,)):
            self.fails(BadNumber("toll"), Above, leaf, leaf, toll=wrong)
            self.fails(BadNumber("toll"), Above, big, big, toll=wrong)
            self.fails(BadNumber("over"), Beside, leaf, leaf, over=wrong, back=wrong)
            self.fails(BadNumber("over"), Beside, big, big, over=wrong)
            self.fails(BadNumber("back"), Beside, leaf, leaf, back=wrong)
            self.fails(BadNumber("back"), Beside, big, big, over=1, back=wrong)

    def test_too_many_places(self):
        leaf = Leaf()
        big = Above(*[leaf] * 16, toll=1)
        self.assertEqual(big.series_order(), chain(16))
        self.fails(TooMany(16), Above, *[leaf] * 17)
        self.fails(TooMany(16), Above, big, leaf)
        self.fails(TooMany(16), Beside, big, leaf)
        self.fails(TooMany(16), Beside, leaf, big, over=0)


class CostsTest(CostCase):
    def test_cost_and_whole_cost(self):
        for node in NODES:
            order, tolls = self.told(node.series_order), self.told(node.series_tolls)
            self.assertEqual(order.size, node.size_of())
            value = self.told(node.series_cost)
            self.assertIs(type(value), int)
            if len(tolls) <= 30:
                self.shown(order, tolls, (value, 1))
            if len(tolls) <= 12 and tolls.total_count() <= 24:
                self.assertEqual(whole_cost(order, tolls), value)

    def test_full_cost(self):
        for node in NODES:
            order = node.series_order()
            wanted = 0 if order.size == 1 else 1 if order.is_chain() else 2
            try:
                self.assertEqual(full_cost(order), (wanted, 1))
            except TooMany:
                self.assertGreater(order.size, 6)

    def test_tolls_by_their_words(self):
        for node in NODES:
            order, tolls = node.series_order(), node.series_tolls()
            for x, y, _ in tolls:
                self.assertTrue((x, y) in open_pairs(order) or (x, y) in sure_pairs(order))
        for first in some_nodes(6, 3, 5):
            for second in some_nodes(6, 3, 5):
                made = Beside(first, second, over=2, back=3)
                cross = cross_counts(antichain(2), [first.series_order(), second.series_order()],
                                     Counts([(0, 1, 2), (1, 0, 3)]))
                size = first.size_of()
                moved = Counts([(x + size, y + size, toll) for x, y, toll in second.series_tolls()])
                self.assertEqual(made.series_tolls(), cross + first.series_tolls() + moved)
                self.assertEqual(made.series_order(), first.series_order() + second.series_order())
                piled = Above(first, second, toll=4)
                cross = cross_counts(chain(2), [first.series_order(), second.series_order()], Counts([(1, 0, 4)]))
                self.assertEqual(piled.series_tolls(), cross + first.series_tolls() + moved)
                self.assertEqual(piled.series_order(), first.series_order() >> second.series_order())


class LinesTest(CostCase):
    def test_each_open_pair_in_just_one(self):
        for node in NODES + some_nodes(20, 16, 3):
            order = node.series_order()
            lines = self.told(series_lines, node)
            self.assertIs(type(lines), list)
            self.assertEqual(lines, sorted(lines))
            self.assertEqual(len(lines), 1 if order.is_chain() else 2)
            for line in lines:
                self.assertIs(type(line), tuple)
                self.assertTrue(is_line(order, line))
            for x, y in open_pairs(order):
                self.assertEqual(sum(line.index(x) > line.index(y) for line in lines), 1)

    def test_chains(self):
        self.gives([tuple(range(16))], series_lines, Above(*[Leaf()] * 16))
        self.gives([(0, 1, 2)], series_lines, Above(Leaf(), Above(Leaf(), Leaf())))
        self.gives([(0, 1), (1, 0)], series_lines, Beside(Leaf(), Leaf()))


class IsSeriesTest(CostCase):
    def test_nodes_are(self):
        for node in NODES + some_nodes(20, 16, 3):
            self.gives(True, is_series, node.series_order())

    def test_by_four_places(self):
        for order in small_orders() + some_orders(60, 5, 7) + [bent(), standard(3), crown(4, reach=1)]:
            found = any(order.is_below(a, c) and order.is_below(b, c) and order.is_below(b, d)
                        and order.are_open(a, b) and order.are_open(c, d) and order.are_open(a, d)
                        for a, b, c, d in permutations(range(order.size), 4))
            self.gives(not found, is_series, order)

    def test_just_the_orders_of_nodes(self):
        for size in range(1, 5):
            kinds = orders_of_nodes(size)
            for order in orders_of(size)[::5 if size == 4 else 1]:
                self.assertEqual(is_series(order), any(renamed_equal(order, kind) for kind in kinds))

    def test_by_hand(self):
        self.gives(False, is_series, Order(4, [(0, 2), (1, 2), (1, 3)]))
        self.gives(True, is_series, Order(4, [(0, 2), (1, 2), (0, 3), (1, 3)]))
        self.gives(True, is_series, standard(2))
        self.gives(False, is_series, standard(3))
        self.gives(False, is_series, bent())
        self.gives(True, is_series, antichain(16))
        self.gives(True, is_series, chain(16))
        self.assertTrue(is_at_most(full_cost(standard(2)), (2, 1)))


if __name__ == "__main__":
    unittest.main()
