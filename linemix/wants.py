"""For the package itself: what is asked of rows of points, and how it falls apart.

A want is a tuple (point, mask). A row of points serves it if the point stands behind all points of the mask. needs
holds for each point the mask of the points that stand ahead of it in every row, with all that follow from them. So
for an order, with its masks belows as needs, the rows are its lines, and they serve what they turn.
"""

from linemix.lines import least_row
from linemix.masks import full_mask


def wants_of(order, counts):
    """Return for each count above 0 the want that the lines serve that turn its pair."""
    return [(x, order.belows[y] | (1 << y)) for x, y, _ in counts.rows]


def row_serving(needs, wants):
    """Return a row of all points that serves all these wants, None if there is none."""
    asked = list(needs)
    for point, mask in wants:
        asked[point] = asked[point] | mask
    return least_row(asked, full_mask(len(needs)))


def _is_sure(needs, want):
    """Tell whether every row serves the want, since nothing more is asked than what needs holds."""
    point, mask = want
    return mask & needs[point] == mask


def _leads_to(needs, want, other):
    """Tell whether every row that serves the want serves the other one, too, as their masks show."""
    point, mask = want
    its_point, its_mask = other
    ahead = point == its_point or needs[its_point] >> point & 1 == 1
    return ahead and its_mask & mask == its_mask


def _kept_wants(needs, wants, tolls):
    """Return the numbers, ascending, of the wants that are left if each one is dropped to which a dearer one leads."""
    # Of two wants with one toll the one that leads to the other comes first here: a mask is above each part of it.
    ranks = sorted([(-tolls[at], -mask, needs[point], at) for at, (point, mask) in enumerate(wants)])
    kept = []
    for _, _, _, at in ranks:
        if not any([_leads_to(needs, wants[other], wants[at]) for other in kept]):
            kept.append(at)
    return sorted(kept)


def _reached_from(wants):
    """Return for each want the mask of the numbers of the wants to which some row of wants in ring order leads."""
    reached = []
    for point, _ in wants:
        reached.append(sum([1 << at for at, want in enumerate(wants) if want[1] >> point & 1]))
    for middle in range(len(wants)):
        gain = reached[middle]
        reached = [mask | gain if mask >> middle & 1 else mask for mask in reached]
    return reached


def _knots_among(wants):
    """Return the list of the tuples of numbers of wants of which each two lie on one closed row in ring order."""
    reached = _reached_from(wants)
    met = set()
    knots = []
    for at in range(len(wants)):
        if at not in met:
            rest = range(at + 1, len(wants))
            knot = [at] + [other for other in rest if reached[at] >> other & 1 and reached[other] >> at & 1]
            knots.append(tuple(knot))
            for other in knot:
                met.add(other)
    return knots


def knots_of(needs, wants, tolls):
    """Return the list of the knots: tuples of the numbers of wants, no number in two of them.

    Each ring lies within one knot, so what is served in each knot alone can be served together. Wants that are paid
    along with another one are in no knot; a want that is always served is a knot of its own.
    """
    kept = _kept_wants(needs, wants, tolls)
    sure = [(at,) for at in kept if _is_sure(needs, wants[at])]
    rest = [at for at in kept if not _is_sure(needs, wants[at])]
    return sure + [tuple([rest[at] for at in knot]) for knot in _knots_among([wants[at] for at in rest])]


def _cut_to(points, mask):
    """Return the mask of the points of the mask, numbered as they stand in the list."""
    return sum([1 << at for at, point in enumerate(points) if mask >> point & 1])


def narrowed(needs, wants):
    """Return a tuple (needs, wants) for the rows of the points of the wants alone, numbered as they ascend.

    What such a row serves is served by a row of all points, too.
    """
    points = sorted({point for point, _ in wants})
    return ([_cut_to(points, needs[point]) for point in points],
            [(points.index(point), _cut_to(points, mask)) for point, mask in wants])
