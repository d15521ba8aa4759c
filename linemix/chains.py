"""Chains and antichains: heaviest antichains, covers by chains, and lines that put chains low or high."""

from linemix.errors import AreOpen
from linemix.masks import places_in
from linemix.numbers import rates_told
from linemix.pairs import reaches
from linemix.places import couples_of, places_of
from linemix.turning import line_turning

# Here each place has as many units as its load. A unit can be joined to at most one unit of a place above its own, and
# to at most one of a place below it; units joined one behind the other make the chains of a cover. So the more units
# are joined, the less the numbers of the chains sum to. joined[low][high] is a number of joins.


def _joined_below(joined, place):
    """Return how many units of the place are joined to one below it."""
    return sum([row[place] for row in joined])


def _reached(order, loads, joined):
    """Search for a way to join more units, nearest places first.

    Returns two dicts: from the places of which one more unit could be joined to one above it, if some joins were
    changed, to the place from which this was found (None at the beginning); and likewise with one below it.
    """
    lows = {place: None for place in range(order.size) if loads[place] > sum(joined[place])}
    highs = {}
    queue = list(lows)
    at = 0
    while at < len(queue):
        low = queue[at]
        at = at + 1
        for high in places_in(order.aboves[low]):
            if high not in highs:
                highs[high] = low
                freed = [place for place in range(order.size) if joined[place][high] and place not in lows]
                lows.update({place: high for place in freed})
                queue.extend(freed)
    return lows, highs


def _way_to(lows, highs, end):
    """Return the list of the (low, high) to be joined on the way to the place end, the last one first.

    On the way, each low but that of the last entry gives up its join to the high of the entry behind.
    """
    way = []
    high = end
    while high is not None:
        way.append((highs[high], high))
        high = lows[highs[high]]
    return way


def _join_along(loads, joined, way):
    """Join as many more units as can be along the way."""
    given_up = [(low, after[1]) for (low, _), after in zip(way, way[1:])]
    first = way[-1][0]
    last = way[0][1]
    ends = [loads[first] - sum(joined[first]), loads[last] - _joined_below(joined, last)]
    many = min(ends + [joined[low][high] for low, high in given_up])
    for low, high in way:
        joined[low][high] = joined[low][high] + many
    for low, high in given_up:
        joined[low][high] = joined[low][high] - many


def _most_joined(order, loads):
    """Return the numbers of joins, as many as possible in all, and a heaviest antichain."""
    joined = [[0] * order.size for _ in range(order.size)]
    while True:
        lows, highs = _reached(order, loads, joined)
        ends = [high for high in highs if loads[high] > _joined_below(joined, high)]
        if not ends:
            # What is above a place of lows is in highs, so these places are pairwise open.
            return joined, tuple([place for place in range(order.size) if place in lows and place not in highs])
        _join_along(loads, joined, _way_to(lows, highs, ends[0]))


def heaviest(order, loads):
    """Return the greatest sum of loads over an antichain, and an antichain with this sum."""
    told = rates_told(loads, order.size, 0)
    _, places = _most_joined(order, told)
    return sum([told[place] for place in places]), places


def _joined_above(joined, place):
    """Return a place above this one to which units of it are joined, None if there is none."""
    for high, many in enumerate(joined[place]):
        if many:
            return high
    return None


def _taken_chain(joined, place, most):
    """Take joins out, the same number along a chain from the place up; return this chain and this number."""
    path = [place]
    high = _joined_above(joined, place)
    while high is not None:
        path.append(high)
        high = _joined_above(joined, high)
    joins = list(zip(path, path[1:]))
    many = min([most] + [joined[low][high] for low, high in joins])
    for low, high in joins:
        joined[low][high] = joined[low][high] - many
    return tuple(sorted(path)), many


def loaded_cover(order, loads):
    """Return a list of tuples (chain, number) that gives each place its load, with the least sum of numbers."""
    told = rates_told(loads, order.size, 0)
    joined, _ = _most_joined(order, told)
    starts = [load - _joined_below(joined, place) for place, load in enumerate(told)]
    cover = []
    for place, start in enumerate(starts):
        left = start
        while left:
            path, many = _taken_chain(joined, place, left)
            cover.append((path, many))
            left = left - many
    return cover


def width(order):
    """Return the size of the greatest antichains."""
    return len(widest(order))


def widest(order):
    """Return an antichain of the greatest size."""
    return heaviest(order, [1] * order.size)[1]


def chain_cover(order):
    """Return a list of as many chains as the width, each place in exactly one of them."""
    return [path for path, _ in loaded_cover(order, [1] * order.size)]


def _first_open(order, places):
    """Return the first two of the places, ascending, that are open, None if there are none."""
    for x, y in couples_of(places):
        if order.are_open(x, y):
            return x, y
    return None


def is_a_chain(order, places):
    """Tell whether the set is a chain."""
    return _first_open(order, places_of(places, order.size)) is None


def is_an_antichain(order, places):
    """Tell whether the set is an antichain."""
    return all([order.are_open(x, y) for x, y in couples_of(places_of(places, order.size))])


def chain_of(order, value):
    """Return the chain that a list or tuple names."""
    places = places_of(value, order.size)
    couple = _first_open(order, places)
    if couple is not None:
        raise AreOpen(couple[0], couple[1])
    return places


def _pairs_over(order, places):
    """Return the list of all pairs (x, c) with c in the places."""
    return [(x, c) for c in places for x in range(order.size) if not reaches(order, x, c)]


def _pairs_under(order, places):
    """Return the list of all pairs (c, y) with c in the places."""
    return [(c, y) for c in places for y in range(order.size) if not reaches(order, c, y)]


def low_line(order, chosen):
    """Return a line that turns all pairs (x, c) with c in the chain."""
    return line_turning(order, _pairs_over(order, chain_of(order, chosen)))


def high_line(order, chosen):
    """Return a line that turns all pairs (c, y) with c in the chain."""
    return line_turning(order, _pairs_under(order, chain_of(order, chosen)))


def both_line(order, chosen, others):
    """Return a line that puts the first chain low and the second one high, as above; None if there is none."""
    low = chain_of(order, chosen)
    high = chain_of(order, others)
    return line_turning(order, _pairs_over(order, low) + _pairs_under(order, high))
