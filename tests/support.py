"""What the tests share: a test case that watches its calls, and slow but plain ways to orders and lines."""

import copy
import random
import unittest
from itertools import combinations, permutations

from linemix.costs import best_mix, best_paper, cost
from linemix.counts import Counts
from linemix.desks import Desk
from linemix.families import Family
from linemix.lines import is_line
from linemix.mixes import Mix
from linemix.orders import Order
from linemix.numbers import lowest
from linemix.papers import Paper
from linemix.series import Above, Beside, Leaf, Node
from linemix.shapes import antichain, chain
from linemix.turning import Turner
from linemix.unseen import Notes

CLASSES = (Order, Counts, Mix, Paper, Turner, Family, Leaf, Above, Beside, Notes, Desk)
NO_LISTS = (None, 1, True, "0123", {0}, {0: 1}, range(4))
ORDER = Order(4, [(0, 2), (1, 2), (1, 3)])
# What is no pair of ORDER: of another form, with what is no place, of one place, or with x below y.
NO_PAIRS = (
    None, 1, True, "01", {0, 1}, {1: 0, 0: 1}, range(2), (), (0,), (1, 0, 3), [], (1, 1), [3, 3], (0, 4), (4, 0),
    (-1, 0), (0, -1), (True, 0), (0, True), (False, 1), (1, False), (0, 1.0), ("1", 0), [None, 1], ((1,), 0), (1, [0]),
    (10 ** 30, 0), (0, 2), [1, 2], (1, 3),
)


def as_lists(value):
    """The value with each tuple in it turned into a list: an equal argument of another kind."""
    if isinstance(value, (list, tuple)):
        return [as_lists(entry) for entry in value]
    return value


def held_by(call, args, named):
    """All that a call could change: its arguments, what objects among them hold, and the object whose method it is."""
    owner = getattr(call, "__self__", call)
    held = [vars(value) for value in (owner, *args) if isinstance(value, CLASSES)]
    return node_free(args), node_free(named), node_free(held)


def node_free(value):
    """The value with each node and desk in it replaced by what it holds: they are equal to nothing but themselves."""
    if isinstance(value, (Node, Desk)):
        return type(value).__name__, node_free(vars(value))
    if isinstance(value, (list, tuple)):
        return type(value)([node_free(entry) for entry in value])
    if isinstance(value, dict):
        return {key: node_free(entry) for key, entry in value.items()}
    return value


class Case(unittest.TestCase):
    """A test case whose calls are checked for what holds of every call of the package."""

    def told(self, call, *args, **named):
        """Call twice: the answers are equal, and neither call changes an argument."""
        kept = copy.deepcopy(held_by(call, args, named))
        answer = call(*args, **named)
        self.assertEqual(held_by(call, args, named), kept, "an argument was changed")
        again = call(*args, **named)
        self.assertEqual(answer, again, "two equal calls, two answers")
        self.assertIs(type(answer), type(again))
        if isinstance(answer, list):
            self.assertIsNot(answer, again, "a list must be a new one")
        return answer

    def gives(self, wanted, call, *args, **named):
        """The call returns what is wanted, which is of the same kind in all depths."""
        answer = self.told(call, *args, **named)
        self.assertEqual(answer, wanted)
        self.same_kind(answer, wanted)
        return answer

    def same_kind(self, answer, wanted):
        self.assertIs(type(answer), type(wanted))
        if isinstance(wanted, (list, tuple)):
            for entry, model in zip(answer, wanted):
                self.same_kind(entry, model)

    def fails(self, wanted, call, *args, **named):
        """The call raises an error of just this class with just these attributes, and changes no argument."""
        kept = copy.deepcopy(held_by(call, args, named))
        with self.assertRaises(type(wanted)) as caught:
            call(*args, **named)
        self.assertEqual(held_by(call, args, named), kept, "an argument was changed by a call that raises")
        error = caught.exception
        self.assertIs(type(error), type(wanted))
        self.assertEqual(vars(error), vars(wanted))
        for name, value in vars(wanted).items():
            self.assertIs(type(vars(error)[name]), type(value))
        return error


class CostCase(Case):
    """A test case that shows costs from both sides: a mix that pays and a paper that holds, both looked at plainly."""

    def fraction(self, value):
        """The value is a fraction in lowest terms."""
        self.assertIs(type(value), tuple)
        top, bottom = value
        self.assertTrue(type(top) is int and type(bottom) is int and bottom >= 1)
        self.assertEqual(lowest(top, bottom), value)

    def lines_pay(self, order, mix, tolls):
        """The mix is one of lines of the order, each toll paid by the lines with x behind y."""
        self.assertIs(type(mix), Mix)
        for line, number in mix:
            self.assertTrue(number >= 1 and is_line(order, line))
        for x, y, toll in tolls:
            paid = sum(number for line, number in mix if line.index(x) > line.index(y))
            self.assertGreaterEqual(paid, toll * mix.bottom)
        self.assertTrue(mix.pays(tolls) and mix.holds_in(order))

    def no_line_earns_more(self, order, paper):
        """The paper holds, by a look at all lines if they are few."""
        self.assertIs(type(paper), Paper)
        self.assertTrue(paper.holds_in_order(order))
        if order.size <= 6:
            ranks = ranks_of_lines(order)
            earned = [sum(number for x, y, number in paper if rank[x] > rank[y]) for rank in ranks]
            self.assertLessEqual(max(earned), paper.bottom)

    def shown(self, order, tolls, wanted=None):
        """The cost, shown by a best mix and a best paper."""
        value = self.told(cost, order, tolls)
        self.fraction(value)
        if wanted is not None:
            self.assertEqual(value, wanted)
        mix = self.told(best_mix, order, tolls)
        self.lines_pay(order, mix, tolls)
        self.assertEqual(mix.total, value)
        paper = self.told(best_paper, order, tolls)
        self.no_line_earns_more(order, paper)
        self.assertEqual(paper.value_at(tolls), value)
        self.assertEqual(lowest(sum(number * tolls[x, y] for x, y, number in paper), paper.bottom), value)
        for x, y, number in paper:
            self.assertTrue(number >= 1 and tolls[x, y] >= 1)
        return value


def ranks_of_lines(order):
    """For each line the places of the places in it; found once for each order."""
    key = (order.size, order.steps_told())
    if key not in _RANKS:
        _RANKS[key] = [{place: at for at, place in enumerate(line)} for line in plain_lines(order)]
    return _RANKS[key]


_RANKS = {}


def is_order_of(size, steps):
    """Whether the steps are those of an order, all that follow included."""
    told = set(steps)
    if any((high, low) in told for low, high in told):
        return False
    return all((a, d) in told for a, b in told for c, d in told if b == c)


def orders_of(size):
    """All orders of that size, found by going through all sets of steps."""
    if size not in _ORDERS:
        couples = [(a, b) for a in range(size) for b in range(size) if a != b]
        sets = [chosen for many in range(len(couples) // 2 + 1) for chosen in combinations(couples, many)]
        _ORDERS[size] = [Order(size, chosen) for chosen in sets if is_order_of(size, chosen)]
    return _ORDERS[size]


_ORDERS = {}


def small_orders():
    """All orders of one to four places."""
    return [order for size in range(1, 5) for order in orders_of(size)]


def some_orders(many, least, most):
    """The same orders on every run, of least to most places, thin and thick ones."""
    dice = random.Random(f"{many} {least} {most}")
    found = []
    for _ in range(many):
        size = dice.randint(least, most)
        row = dice.sample(range(size), size)
        chance = dice.choice([0.1, 0.3, 0.6])
        steps = [(row[a], row[b]) for a in range(size) for b in range(a + 1, size) if dice.random() < chance]
        found.append(Order(size, steps))
    return found


def steps_following(steps):
    """All steps that follow from those told, by joining steps until none is new."""
    told = set(steps)
    while True:
        more = {(a, d) for a, b in told for c, d in told if b == c} - told
        if not more:
            return tuple(sorted(told))
        told |= more


def keeps_steps(row, steps):
    """Whether a row has the higher place of each step behind the lower one."""
    return all(row.index(low) < row.index(high) for low, high in steps)


def plain_lines(order):
    """All lines, found by going through all rows."""
    steps = order.steps_told()
    return [row for row in permutations(range(order.size)) if keeps_steps(row, steps)]


def plain_lower_sets(order):
    """All lower sets, found by going through all sets of places."""
    steps = order.steps_told()
    sets = [chosen for many in range(order.size + 1) for chosen in combinations(range(order.size), many)]
    return [chosen for chosen in sets if all(low in chosen for low, high in steps if high in chosen)]


def plain_pairs(order):
    """The pairs of an order, by their definition."""
    steps = order.steps_told()
    return [(x, y) for x in range(order.size) for y in range(order.size) if x != y and (x, y) not in steps]


def turned_by(row):
    """The set of all pairs that a row turns."""
    return {(row[b], row[a]) for a in range(len(row)) for b in range(a + 1, len(row))}


def turned_sets(order):
    """For each line the set of all pairs that it turns, open or sure."""
    return [turned_by(line) for line in plain_lines(order)]


def is_turned(lot, sets):
    """Whether one of the sets has all pairs of the lot."""
    return any(turned.issuperset(lot) for turned in sets)


def lots_within(pairs, most):
    """All lots of at most so many of the pairs."""
    return [lot for many in range(most + 1) for lot in combinations(sorted(pairs), many)]


def plain_least_rings(lot, sets):
    """All least rings of a lot, by a look at all lines for each smaller lot."""
    found = []
    for part in lots_within(lot, len(lot)):
        if not is_turned(part, sets) and not any(set(ring) <= set(part) for ring in found):
            found.append(part)
    return found


def some_lots(order, many, most):
    """The same lots of an order on every run, of at most so many pairs."""
    pairs = plain_pairs(order)
    dice = random.Random(f"{order.size} {pairs} {many} {most}")
    return [tuple(sorted(dice.sample(pairs, dice.randint(0, min(most, len(pairs)))))) for _ in range(many)]


def some_counts(order, many, most):
    """The same counts on every run that fit the order, with numbers of at most most at some of its pairs."""
    pairs = plain_pairs(order)
    dice = random.Random(f"{order.size} {pairs} {many} {most}")
    chosen = [dice.sample(pairs, dice.randint(0, len(pairs))) for _ in range(many)]
    return [Counts([(x, y, dice.randint(0, most)) for x, y in lot]) for lot in chosen]


def few_counts(order, many, tolled, most):
    """The same counts on every run, of just so many tolled pairs (or all, if there are fewer)."""
    pairs = plain_pairs(order)
    dice = random.Random(f"{order.size} {pairs} {many} {tolled} {most}")
    chosen = [dice.sample(pairs, min(tolled, len(pairs))) for _ in range(many)]
    return [Counts([(x, y, dice.randint(1, most)) for x, y in lot]) for lot in chosen]


def flipped_plainly(counts):
    """The counts of (x, y) at (y, x)."""
    return Counts([(y, x, number) for x, y, number in counts])


def renumbered(counts, places):
    """The counts of pairs of these places, at the pairs that they are in the sub-order."""
    numbers = {place: at for at, place in enumerate(sorted(places))}
    return Counts([(numbers[x], numbers[y], number) for x, y, number in counts if {x, y} <= set(numbers)])


def earned_by(line, counts):
    """The sum of the counts of the pairs that a line turns."""
    return sum(number for x, y, number in counts if line.index(x) > line.index(y))


def beside_all(parts):
    """The parts beside one another."""
    made = parts[0]
    for part in parts[1:]:
        made = made + part
    return made


def many_lines():
    """16 places with more than 10 ** 10 lines and 3888 lower sets."""
    return beside_all([chain(2), chain(2), chain(2), chain(2), chain(2), chain(3), chain(3)])


def thousand_lines():
    """15 places with exactly 1000 lines."""
    part = chain(2) + chain(3)
    return part >> part >> part


def five_thousand_lower_sets():
    """15 places with exactly 5000 lower sets."""
    inner = chain(1) >> (antichain(2) + chain(2))
    return antichain(3) + (chain(1) >> (antichain(4) + chain(2) + inner))
