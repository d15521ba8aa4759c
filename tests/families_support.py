"""What the tests of families share: some families, and plain ways to what their rows turn."""

import random
from itertools import combinations, permutations

from linemix.counts import Counts
from linemix.families import Family


def all_sets(points):
    """All sets of these points, by size, then ascending."""
    return [chosen for many in range(points + 1) for chosen in combinations(range(points), many)]


def some_families(many, least, most):
    """The same families on every run, with few and with many lots."""
    dice = random.Random(f"families {many} {least} {most}")
    found = []
    for _ in range(many):
        points = dice.randint(least, most)
        sets = all_sets(points)
        dice.shuffle(sets)
        found.append(Family(points, sets[:dice.randint(0, min(len(sets), 8))]))
    return found


def plain_point_pairs(family):
    return [(a, j) for a in range(family.points) for j, lot in enumerate(family.lots) if a not in lot]


def plain_row_pairs(family, row):
    """The point pairs that a row turns, by the words of [49]."""
    return [(a, j) for a, j in plain_point_pairs(family)
            if all(row.index(point) < row.index(a) for point in family.lots[j])]


def plain_rows(family):
    """For each row of the points the set of the point pairs that it turns."""
    return [set(plain_row_pairs(family, row)) for row in permutations(range(family.points))]


def point_counts(family, many, tolled, most):
    """The same counts on every run at so many point pairs, or at all if there are fewer."""
    pairs = plain_point_pairs(family)
    dice = random.Random(f"{family.points} {family.lots} {many} {tolled} {most}")
    return [Counts([(a, j, dice.randint(1, most)) for a, j in dice.sample(pairs, min(tolled, len(pairs)))])
            for _ in range(many)]


def plain_circles(family):
    """All circles, by size, then ascending, by a look at all sets."""
    return [chosen for chosen in all_sets(family.points) if chosen and all(
        tuple(point for point in chosen if point != a) in family.lots for a in chosen)]


def pairs_at(family, circle):
    """The point pairs (a, number of circle less a)."""
    return [(a, family.lots.index(tuple(point for point in circle if point != a))) for a in circle]


def sixty_lots():
    """A family of 12 points with 60 lots."""
    sets = [chosen for chosen in all_sets(12) if len(chosen) in (1, 2)]
    return Family(12, sets[:60])


TRIANGLE = Family(3, [(0, 1), (0, 2), (1, 2)])
