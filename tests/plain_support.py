"""Slow but plain ways to least totals, corners and shortest rounds, over fractions of Python's own."""

from fractions import Fraction
from itertools import combinations, permutations

from tests.support import orders_of, plain_lines, plain_pairs


def told(number):
    """A number as the package tells a fraction."""
    fraction = Fraction(number)
    return fraction.numerator, fraction.denominator


def plain_most(gains, rows, bounds):
    """The greatest sum of gains times numbers at least 0, where no row, multiplied likewise, is above its bound.

    The bounds are at least 0. The numbers grow one at a time, always the first one that gains (Bland's rule).
    """
    many = len(rows)
    table = [[Fraction(value) for value in row] + [Fraction(int(at == other)) for other in range(many)] + [Fraction(bound)]
             for at, (row, bound) in enumerate(zip(rows, bounds))]
    last = [Fraction(-gain) for gain in gains] + [Fraction(0)] * (many + 1)
    basis = [len(gains) + at for at in range(many)]
    while True:
        enters = next((at for at, value in enumerate(last[:-1]) if value < 0), None)
        if enters is None:
            return last[-1]
        ways = [(row[-1] / row[enters], basis[at], at) for at, row in enumerate(table) if row[enters] > 0]
        leaves = min(ways)[2]
        pivot = table[leaves][enters]
        table[leaves] = [value / pivot for value in table[leaves]]
        for at, row in enumerate(table):
            if at != leaves and row[enters]:
                table[at] = [value - row[enters] * part for value, part in zip(row, table[leaves])]
        last = [value - last[enters] * part for value, part in zip(last, table[leaves])]
        basis[leaves] = enters


def plain_least(lots, counts):
    """The least total of numbers at lots of pairs, such that the lots that have a pair get at least its count."""
    rows = list(counts)
    if not rows:
        return Fraction(0)
    held = {frozenset((x, y) for x, y, _ in rows if (x, y) in lot) for lot in lots}
    greatest = sorted(sorted(lot) for lot in held if not any(lot < other for other in held))
    return plain_most([number for _, _, number in rows],
                      [[int((x, y) in lot) for x, y, _ in rows] for lot in greatest], [1] * len(greatest))


# So great that no sum of a few numbers met in the tests makes up for one part of a whole cost.
GREAT = 10 ** 15


def plain_papers(order, rows, bounds=None):
    """The greatest sum of numbers times weights, for rows (x, y, number), by which no line earns more than its bound.

    bounds tells a number for a line, 1 if it is None. So for tolls and bounds of 1 this is the cost.
    """
    lines = plain_lines(order)
    marks = [{place: at for at, place in enumerate(line)} for line in lines]
    turned = [[int(mark[x] > mark[y]) for x, y, _ in rows] for mark in marks]
    asked = [Fraction(1) if bounds is None else Fraction(bounds(line)) for line in lines]
    if not rows:
        return Fraction(0)
    # Of lines that turn the same pairs the one with the least bound is enough.
    least = {}
    for row, bound in zip(turned, asked):
        least[tuple(row)] = min(bound, least.get(tuple(row), bound))
    return plain_most([number for _, _, number in rows], list(least), list(least.values()))


def plain_shift(order, tolls, changes):
    """The greatest sum of weights at pairs times these changes, a dict, in best papers for the tolls."""
    pairs = {(x, y): 0 for x, y in changes} | {(x, y): number for x, y, number in tolls}
    near = [(x, y, number * GREAT + changes.get((x, y), 0)) for (x, y), number in sorted(pairs.items())]
    return plain_papers(order, near) - GREAT * plain_papers(order, list(tolls))


def plain_against(order, pair, other):
    """Whether two pairs are against one another, by the words of [17]."""
    return order.is_under(pair[0], other[1]) and order.is_under(other[0], pair[1])


def plain_quiets(order, pairs):
    """All quiet lots of these pairs, by size, then ascending."""
    lots = [lot for many in range(len(pairs) + 1) for lot in combinations(sorted(pairs), many)]
    return [lot for lot in lots if not any(plain_against(order, *couple) for couple in combinations(lot, 2))]


def plain_cuts(order):
    """A list of tuples (set, set of the pairs that the cut turns), for all sets of places by size, then ascending."""
    sets = [chosen for many in range(order.size + 1) for chosen in combinations(range(order.size), many)]
    pairs = plain_pairs(order)
    return [(chosen, {(x, y) for x, y in pairs if x in chosen and y not in chosen}) for chosen in sets]


def rank_of(rows):
    """How many of the rows stand alone, not made of the other ones."""
    left = [[Fraction(value) for value in row] for row in rows]
    rank = 0
    for at in range(len(rows[0]) if rows else 0):
        found = next((row for row in left if row[at]), None)
        if found is not None:
            rank += 1
            left.remove(found)
            left = [[value - row[at] / found[at] * part for value, part in zip(row, found)] for row in left]
    return rank


def just_met(row, rings, many):
    """The demands of [92] that a row of fractions meets just, each as a row of numbers."""
    units = [[int(at == other) for other in range(many)] for at in range(many)]
    met = [units[at] for at in range(many) if row[at] == 0]
    return met + [[int(at in ring) for at in range(many)] for ring in rings if sum(row[at] for at in ring) == 1]


def solved(rows, goals):
    """The only row of fractions whose products with the rows are the goals, None if there is none or are more."""
    left = [[Fraction(value) for value in row] + [Fraction(goal)] for row, goal in zip(rows, goals)]
    for at in range(len(rows)):
        found = next((row for row in left[at:] if row[at]), None)
        if found is None:
            return None
        left.remove(found)
        found = [value / found[at] for value in found]
        left = [[value - row[at] * part for value, part in zip(row, found)] for row in left]
        left.insert(at, found)
    return tuple(row[-1] for row in left)


def plain_corners(many, rings):
    """All corners of [92] as rows of fractions, by a look at each so many demands met just at once."""
    demands = [([int(at == other) for other in range(many)], 0) for at in range(many)]
    demands += [([int(at in ring) for at in range(many)], 1) for ring in rings]
    found = set()
    for chosen in combinations(demands, many):
        row = solved([row for row, _ in chosen], [goal for _, goal in chosen])
        if row is not None and min(row, default=0) >= 0 and all(sum(row[at] for at in ring) >= 1 for ring in rings):
            found.add(row)
    return found


def shortest_odd(things, are_rivals):
    """The least odd number of steps from a thing back to itself, from rival to rival; None if there is none."""
    rivals = {thing: {other for other in things if are_rivals(thing, other)} for thing in things}
    reached = {thing: {thing} for thing in things}
    for steps in range(1, 2 * len(things) + 2):
        reached = {thing: {other for way in ways for other in rivals[way]} for thing, ways in reached.items()}
        if steps % 2 and any(thing in reached[thing] for thing in things):
            return steps
    return None


def is_plainly_clear(order, line):
    """Whether a line is clear, by the words of [76]."""
    for u, v in order.steps_told():
        if any(order.are_open(u, z) and order.are_open(z, v) for z in line[line.index(u) + 1:line.index(v)]):
            return False
    return True


def open_turned(order, line):
    """The set of the open pairs that a line turns."""
    return {(x, y) for x, y in plain_pairs(order) if order.are_open(x, y) and line.index(x) > line.index(y)}


def plain_mates(order):
    """A dict from each line to its mate, None if it has none."""
    turned = {line: open_turned(order, line) for line in plain_lines(order)}
    found = {frozenset(pairs): line for line, pairs in turned.items()}
    return {line: found.get(frozenset((y, x) for x, y in pairs)) for line, pairs in turned.items()}


def unlike_orders(size):
    """One order of that size of each shape: no two of them are equal after renumbering."""
    found = {}
    for order in orders_of(size):
        steps = order.steps_told()
        shape = min(tuple(sorted((row[x], row[y]) for x, y in steps)) for row in permutations(range(size)))
        found.setdefault(shape, order)
    return list(found.values())
