"""Mean places in mixes, and the best mixes in which a place stands highest or lowest."""

from linemix.commons import flipped
from linemix.counts import check_fit
from linemix.errors import NoLines, NoPairs
from linemix.faces import check_faced
from linemix.lines import free_places
from linemix.masks import full_mask, places_in
from linemix.mixes import Mix
from linemix.numbers import lowest
from linemix.places import place_of
from linemix.simplex import priced_mix
from linemix.tables import LotTable

# Lots cost so much less the places that x is over, at most 15. Exchanges of at most eight lots and pairs change sums of
# such places by less than 10 ** 5, and sums of weights by at least 1 / 56 or not at all, 56 being the greatest
# determinant of eight rows of zeros and ones. So the cheapest mixes have the least total, and x highest among these.
PRICE = 10 ** 9


def mean_place(mix, x):
    """Return the mean place of x in the mix, counted from 1."""
    if not mix.rows:
        raise NoLines()
    place = place_of(x, mix.size, "x")
    places = sum([number * (line.index(place) + 1) for line, number in mix.rows])
    return lowest(places, sum([number for _, number in mix.rows]))


def _high_row(needs, x):
    """Return a row in which each place stands behind those that it needs, and x as far behind as can be.

    The answer is None if there is no such row.
    """
    row = ()
    left = full_mask(len(needs))
    while left:
        free = free_places(needs, left)
        if not free:
            return None
        others = [place for place in free if place != x]
        chosen = others[0] if others else x
        row = row + (chosen,)
        left = left ^ (1 << chosen)
    return row


def _high_rows(order, tolls, x):
    """Return a dict from each lot of tolled pairs that a line turns to a line that turns it and has x highest.

    A lot is told by the numbers of the pairs.
    """
    rows = {}
    for mask in range(1 << len(tolls)):
        lot = places_in(mask)
        needs = list(order.belows)
        for at in lot:
            high, low, _ = tolls.rows[at]
            needs[high] = needs[high] | (1 << low)
        row = _high_row(needs, x)
        if row is not None:
            rows[lot] = row
    return rows


def _highest_mix(order, tolls, x):
    """Return a best mix in which the mean place of x is the greatest; some toll is above 0."""
    rows = _high_rows(order, tolls, x)
    prices = {lot: PRICE - rows[lot].index(x) for lot in rows}
    bottom, lots, _ = priced_mix(LotTable(list(rows)), [toll for _, _, toll in tolls.rows], PRICE, prices)
    return Mix(bottom, [(rows[lot], number) for lot, number in lots])


def mean_mix(order, tolls, x, *, least=False):
    """Return a best mix in which the mean place of x is the greatest, or the least."""
    check_fit(order, tolls)
    place_of(x, order.size, "x")
    if len(tolls) == 0:
        raise NoPairs()
    check_faced(order, tolls)
    if not least:
        return _highest_mix(order, tolls, x)
    turned = _highest_mix(~order, flipped(tolls), x)
    return Mix(turned.bottom, [(line[::-1], number) for line, number in turned.rows])


def mean_ends(order, tolls, x):
    """Return the least and the greatest mean place of x in best mixes."""
    low = mean_mix(order, tolls, x, least=True)
    return mean_place(low, x), mean_place(mean_mix(order, tolls, x), x)
