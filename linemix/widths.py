"""Bounds of costs told by antichains, and clear lines of orders that are nearly antichains."""

from linemix.chains import heaviest, high_line, loaded_cover, low_line, width
from linemix.counts import check_fit
from linemix.errors import BadPlace, NotOpen
from linemix.mixes import Mix
from linemix.pairs import reaches
from linemix.places import couples_of, place_of
from linemix.rates import lot_bound
from linemix.shapes import bent, standard

# Of two places u and v, u not above v, a clear line has the others ahead of u, between them and behind v by how they
# stand to u and to v: -1 is below, 0 open, 1 above.
AHEAD = ((0, 0), (-1, 0), (-1, -1))
BETWEEN = ((1, 0), (1, -1), (0, -1))
BEHIND = ((1, 1), (0, 1))


def _loads_of(order, tolls, upper):
    """Return for each place the greatest toll of the pairs that have it second, or first if upper is True."""
    check_fit(order, tolls)
    loads = [0] * order.size
    for x, y, toll in tolls.rows:
        place = x if upper else y
        loads[place] = max(loads[place], toll)
    return loads


def load_bound(order, tolls, *, upper=False):
    """Return the greatest sum of loads of an antichain."""
    return heaviest(order, _loads_of(order, tolls, upper))[0]


def load_mix(order, tolls, *, upper=False):
    """Return a mix that pays the tolls, with the load bound as its total."""
    cover = loaded_cover(order, _loads_of(order, tolls, upper))
    return Mix(1, [(high_line(order, path) if upper else low_line(order, path), number) for path, number in cover])


def tops_bound(order):
    """Return 1 plus the width of the order without its top places; 2 if there is no other one, 0 for one place."""
    rest = [place for place in range(order.size) if order.aboves[place]]
    if rest:
        return 1 + width(order.on(rest))
    return 0 if order.size == 1 else 2


def _at_least_two(order, number):
    """Return the greater one of 2 and the number; 1 for a chain of two or more places, 0 for one place."""
    if order.is_chain():
        return min(order.size - 1, 1)
    return max(2, number)


def number_bound(order):
    """Return the number of places less the width, but as a bound of the full cost, which is at least 2 mostly."""
    return _at_least_two(order, order.size - width(order))


def half_bound(order):
    """Return half the number of places, rounded down, as a bound of the full cost like number_bound."""
    return _at_least_two(order, order.size // 2)


def best_bound(order):
    """Return the least one of seven bounds of the full cost."""
    turned = ~order
    return min([width(order), number_bound(order), half_bound(order), tops_bound(order), tops_bound(turned),
                lot_bound(order), lot_bound(turned)])


def _stands_to(order, place, other):
    """Return -1 for a place below another one, 1 for one above it, 0 for one open to it."""
    if reaches(order, place, other):
        return -1
    return 1 if reaches(order, other, place) else 0


def _of_kinds(order, places, couple, kinds):
    """Return the tuple of the places that stand to the couple in one of these ways, way by way."""
    low, high = couple
    return tuple([place for kind in kinds for place in places
                  if kind == (_stands_to(order, place, low), _stands_to(order, place, high))])


def clear_two(order, u, v):
    """Return a clear line of an order in which all places but u and v are an antichain."""
    place_of(u, order.size, "u")
    if place_of(v, order.size, "v") == u:
        raise BadPlace("v")
    rest = [place for place in range(order.size) if place != u and place != v]
    for x, y in couples_of(rest):
        if not order.are_open(x, y):
            raise NotOpen(x, y)
    low, high = (v, u) if reaches(order, v, u) else (u, v)
    # No place of the rest is above another one, so none is above u or v while another one is below it.
    ahead, between, behind = [_of_kinds(order, rest, (low, high), kinds) for kinds in (AHEAD, BETWEEN, BEHIND)]
    return ahead + (low,) + between + (high,) + behind


def _numbers_at(order):
    """Return the sorted list of the tuples (number of places below, number of places above) of all places."""
    return sorted([(len(order.below(place)), len(order.above(place))) for place in range(order.size)])


def is_standard(order):
    """Tell whether the order is a standard one after renumbering."""
    # k places below k - 1 others each, which are below none: each of these lacks one of those, another one each.
    many = order.size // 2
    return many >= 2 and _numbers_at(order) == _numbers_at(standard(many))


def is_bent(order):
    """Tell whether the order or the order upside down is the bent one after renumbering."""
    # These numbers leave one way only: the place above four others is above all but the one above two, and so on.
    return _numbers_at(bent()) in (_numbers_at(order), _numbers_at(~order))
