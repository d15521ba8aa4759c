"""Families of lots of points: what rows of the points turn, and costs and worths over these rows."""

from linemix.costs import check_tolled
from linemix.counts import Counts, check_fit
from linemix.errors import BadLots, BadPair, NoPairs, TooMany, Unfit
from linemix.ladders import richest_row
from linemix.lines import ranks_of, row_of
from linemix.masks import mask_of
from linemix.mixes import Mix
from linemix.numbers import check_number
from linemix.orders import Order
from linemix.pairs import reaches
from linemix.payments import paid_knots, rows_of, total_of
from linemix.places import is_place, places_of, wrong_entry

MOST_POINTS = 12
MOST_LOTS = 60


def _is_lot(value, points, size):
    """Tell whether the value is a list or tuple of different points, of just so many if size is not None."""
    if wrong_entry(value, lambda point: is_place(point, points)) is not None:
        return False
    return size is None or len(value) == size


def lots_told(value, points, size):
    """Return the tuple of the different sets of points that a list or tuple tells, in the order told.

    Each must have just so many points if size is not None.
    """
    if not isinstance(value, (list, tuple)):
        raise BadLots(-1)
    told = {}
    for at, entry in enumerate(value):
        if not _is_lot(entry, points, size) or tuple(sorted(entry)) in told:
            raise BadLots(at)
        told[tuple(sorted(entry))] = True
    return tuple(list(told))


class Family:
    """Points 0 .. points - 1 and different lots of them; it never changes.

    Besides the attributes points and lots, the tuple masks holds the mask of each lot.
    """

    def __init__(self, points, lots):
        self.points = check_number(points, "points", 1, MOST_POINTS)
        self.lots = lots_told(lots, points, None)
        if len(self.lots) > MOST_LOTS:
            raise TooMany(MOST_LOTS)
        self.masks = tuple([mask_of(lot) for lot in self.lots])

    @property
    def many(self):
        """How many lots there are."""
        return len(self.lots)

    def point_pairs(self):
        """Return all point pairs (a, j), a point a and the number j of a lot in which it is not, ascending."""
        numbers = range(len(self.lots))
        return tuple([(a, j) for a in range(self.points) for j in numbers if not self.masks[j] >> a & 1])

    def lot_number(self, points):
        """Return the number of the lot with just these points, None if there is none."""
        chosen = places_of(points, self.points)
        return self.lots.index(chosen) if chosen in self.lots else None

    def row_pairs(self, row):
        """Return the point pairs (a, j), ascending, with a behind all points of lot j in the row."""
        ranks = ranks_of(row_of(row, self.points))
        latest = [max([ranks[point] for point in lot], default=-1) for lot in self.lots]
        return tuple([(a, j) for a, j in self.point_pairs() if ranks[a] > latest[j]])

    def __eq__(self, other):
        return isinstance(other, Family) and self.points == other.points and self.lots == other.lots


def is_point_pair(family, a, j):
    """Tell whether two values of any kind are a point and the number of a lot in which it is not."""
    return is_place(a, family.points) and is_place(j, len(family.lots)) and not family.masks[j] >> a & 1


def point_lot(family, value):
    """Return the tuple of the different point pairs, ascending, that a list or tuple tells."""
    if not isinstance(value, (list, tuple)):
        raise BadPair(-2)
    seen = set()
    for at, entry in enumerate(value):
        if not isinstance(entry, (list, tuple)) or len(entry) != 2 or not is_point_pair(family, entry[0], entry[1]):
            raise BadPair(at)
        if tuple(entry) in seen:
            raise BadPair(at)
        seen.add(tuple(entry))
    return tuple(sorted(seen))


def check_points(family, counts):
    """Raise Unfit for the first count above 0, ascending, that stands at no point pair."""
    for a, j, _ in counts.rows:
        if not is_point_pair(family, a, j):
            raise Unfit(a, j)


def _asked_of(family, counts):
    """Return the masks needs, which are empty, the wants and the numbers of the counts, as in linemix.wants."""
    wants = [(a, family.masks[j]) for a, j, _ in counts.rows]
    return [0] * family.points, wants, [number for _, _, number in counts.rows]


def _checked_tolls(family, tolls):
    """Return what _asked_of does for tolls that fit the family and are not too many."""
    check_points(family, tolls)
    check_tolled(tolls)
    return _asked_of(family, tolls)


def family_cost(family, tolls):
    """Return the least total of a mix of rows of the points that pays the tolls."""
    needs, wants, numbers = _checked_tolls(family, tolls)
    return total_of(paid_knots(needs, wants, numbers))


def family_mix(family, tolls):
    """Return a mix of rows of the points with the least total that pays the tolls."""
    needs, wants, numbers = _checked_tolls(family, tolls)
    bottom, rows = rows_of(needs, wants, paid_knots(needs, wants, numbers))
    return Mix(bottom, rows)


def family_worth(family, weights):
    """Return the greatest sum of weights that a row of the points turns, and a row that turns so much."""
    check_points(family, weights)
    needs, wants, numbers = _asked_of(family, weights)
    return richest_row(needs, wants, numbers)


def order_of(family):
    """Return the order of the points and behind them the lots, each point below the lots that have it."""
    steps = [(a, family.points + j) for j, lot in enumerate(family.lots) for a in lot]
    return Order(family.points + family.many, steps)


def family_counts(family, counts):
    """Return the counts at the pairs of the order of the family, whatever its size would be."""
    check_points(family, counts)
    return Counts([(a, family.points + j, number) for a, j, number in counts.rows])


def table_of(order, tolls):
    """Return the set of the x of tolled pairs, the family of what of it is under their y, and the tolls there."""
    check_fit(order, tolls)
    if len(tolls) == 0:
        raise NoPairs()
    chosen = tuple(sorted({x for x, _, _ in tolls.rows}))
    if len(chosen) > MOST_POINTS:
        raise TooMany(MOST_POINTS)
    lots = {}
    greatest = {}
    for y, x, toll in sorted([(y, x, toll) for x, y, toll in tolls.rows]):
        lot = tuple([at for at, place in enumerate(chosen) if reaches(order, place, y)])
        pair = (chosen.index(x), lots.setdefault(lot, len(lots)))
        greatest[pair] = max(toll, greatest.get(pair, 0))
    return chosen, Family(len(chosen), list(lots)), Counts([(a, j, greatest[a, j]) for a, j in greatest])
