"""Families of all sets of a size, families of edges, and how many points their circles have."""

from linemix.circles import circles_in
from linemix.counts import Counts
from linemix.families import MOST_POINTS, Family, lots_told
from linemix.numbers import check_number
from linemix.places import sets_of


def lots_of_size(points, size):
    """Return the family whose lots are all sets of so many points, ascending."""
    check_number(points, "points", 1, MOST_POINTS)
    check_number(size, "size", 0, points)
    return Family(points, sets_of(list(range(points)), size))


def graph_family(points, edges):
    """Return the family whose lots are the edges, sets of two points, in the order told."""
    check_number(points, "points", 1, MOST_POINTS)
    return Family(points, lots_told(edges, points, 2))


def ones_at(family):
    """Return counts of 1 at each point pair."""
    return Counts.at(family.point_pairs())


def family_bound(family):
    """Return 1 plus the greatest size of a lot that some point is off, 0 if there is no point pair."""
    return max([1 + len(lot) for lot in family.lots if len(lot) < family.points], default=0)


def full_circle(family):
    """Return the first circle, ascending, among those of just as many points as the family bound, None if none is."""
    many = family_bound(family)
    full = [circle for circle in circles_in(family, family.point_pairs()) if len(circle) == many]
    return full[0] if full else None
