"""Orders filled in with their closed sets, and the places that tell the full cost."""

from linemix.errors import TooMany
from linemix.leading import led_by, tight_pairs
from linemix.masks import full_mask, places_in
from linemix.orders import MOST_PLACES, Order
from linemix.pairs import all_pairs
from linemix.places import place_of, places_of

MOST_CLOSED = 200


def _closed_sets(order, most):
    """Return the list of the closed sets, by size, then ascending; raise TooMany if there are more than most."""
    found = {full_mask(order.size): True}
    for place in range(order.size):
        reach = order.belows[place] | (1 << place)
        for mask in list(found):
            found[mask & reach] = True
        # All sets met so far are closed, so more of them at any time are too many in the end.
        if len(found) > most:
            raise TooMany(most)
    return sorted(sorted([places_in(mask) for mask in found]), key=len)


def closed_sets(order):
    """Return the list of the closed sets, by size, then ascending."""
    return _closed_sets(order, MOST_CLOSED)


def filled_in(order):
    """Return the order of the closed sets, one below another if it lies in it."""
    sets = _closed_sets(order, MOST_PLACES)
    numbers = range(len(sets))
    return Order(len(sets), [(low, high) for low in numbers for high in numbers
                             if low != high and all([place in sets[high] for place in sets[low]])])


def place_in(order, x):
    """Return the number of the closed set of all that is under x."""
    place = place_of(x, order.size, "x")
    return closed_sets(order).index(places_in(order.belows[place] | (1 << place)))


def fills(order, places):
    """Tell whether the pairs of places of the set, and those to which they lead, are all pairs of the order."""
    chosen = places_of(places, order.size)
    met = {}
    for pair in all_pairs(order):
        if pair[0] in chosen and pair[1] in chosen:
            for other in (pair,) + led_by(order, pair):
                met[other] = True
    return len(met) == len(all_pairs(order))


def needed_places(order):
    """Return the set of all places of tight pairs; of a chain its two lowest places, of one place this one."""
    if order.is_chain():
        return tuple([place for place in range(order.size) if len(order.below(place)) < 2])
    return tuple(sorted({place for pair in tight_pairs(order) for place in pair}))
