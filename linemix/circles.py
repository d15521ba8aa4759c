"""Circles: sets of points that make rates tell the cost, and the standard orders within an order."""

from linemix.counts import Counts
from linemix.errors import BadSet, Missing
from linemix.families import check_points, point_lot
from linemix.lots import most_against, standard_from
from linemix.places import places_of


def _by_size(sets):
    """Return the list of the different ones of these sets, by size, then ascending."""
    return sorted(sorted(set(sets)), key=len)


def _made_by(family, a, j):
    """Return the set of the point a and the points of lot j."""
    return tuple(sorted(family.lots[j] + (a,)))


def _circle_pairs(family, chosen):
    """Return the list of (a, number of the set less a), ascending, for the points a of the set; None for no lot."""
    return [(a, family.lot_number([point for point in chosen if point != a])) for a in chosen]


def circles_in(family, lot):
    """Return the list of all circles that lie in the lot of point pairs, by size, then ascending."""
    pairs = {pair: True for pair in point_lot(family, lot)}
    sets = _by_size([_made_by(family, a, j) for a, j in pairs])
    return [chosen for chosen in sets if all([pair in pairs for pair in _circle_pairs(family, chosen)])]


def circle_counts(family, circle):
    """Return the counts 1 at each (a, number of circle less a)."""
    chosen = places_of(circle, family.points)
    if not chosen:
        raise BadSet(0)
    pairs = _circle_pairs(family, chosen)
    for a, j in pairs:
        if j is None:
            raise Missing(a)
    return Counts.at(pairs)


def is_level(family, weights):
    """Tell whether each row of the points turns the same weight."""
    return level_parts(family, weights) is not None


def level_parts(family, weights):
    """Return the list of tuples (circle, number) of which level weights are made, None for other weights."""
    check_points(family, weights)
    parts = []
    for chosen in _by_size([_made_by(family, a, j) for a, j, _ in weights.rows]):
        # At what is no lot the weight is 0 here, which no other pair of the set has then.
        numbers = [0 if j is None else weights[a, j] for a, j in _circle_pairs(family, chosen)]
        if min(numbers) < max(numbers):
            return None
        parts.append((chosen, numbers[0]))
    return parts


def standard_in(order):
    """Return the x's and the y's of as many pairs as can be pairwise against, None if these are less than three."""
    # Tight pairs that lead to pairs against one another are against one another, too, so tight ones are enough.
    return standard_from(order, most_against(order))
