"""Costs and mixes parted by an open couple, told either way."""

from linemix.costs import best_mix, cost
from linemix.counts import Counts, check_fit, kept_on
from linemix.errors import BadPlace
from linemix.lines import ranks_of
from linemix.mixes import Mix
from linemix.places import place_of
from linemix.ties import check_open, tied


def couple_costs(order, tolls, x, y):
    """Return the costs of the tolls kept on the order with x below y, and on that with y below x."""
    check_fit(order, tolls)
    check_open(order, x, y, ("x", "y"))
    low = tied(order, (x, y))
    high = tied(order, (y, x))
    return cost(low, kept_on(low, tolls)), cost(high, kept_on(high, tolls))


def split_mix(mix, x, y):
    """Return the mix of the lines with y over x, and that of the lines with x over y."""
    if mix.rows:
        place_of(x, mix.size, "x")
        place_of(y, mix.size, "y")
        if x == y:
            raise BadPlace("y")
    first = []
    second = []
    for line, number in mix.rows:
        ranks = ranks_of(line)
        part = first if ranks[y] > ranks[x] else second
        part.append((line, number))
    return Mix(mix.bottom, first), Mix(mix.bottom, second)


def split_tolls(order, tolls, x, y):
    """Return a bottom and two counts, which fit the order with x below y and that with y below x.

    Both counts sum up to bottom times the tolls, and what they cost there to bottom times the cost of the tolls.
    """
    check_fit(order, tolls)
    check_open(order, x, y, ("x", "y"))
    mix = best_mix(order, tolls)
    low, _ = split_mix(mix, x, y)
    # What the lines with y over x pay of each toll is asked of them, the rest of the others, which pay so much.
    first = Counts([(a, b, min(_number_over(low, a, b), toll * mix.bottom)) for a, b, toll in tolls.rows])
    second = Counts([(a, b, toll * mix.bottom - first[a, b]) for a, b, toll in tolls.rows])
    return mix.bottom, first, second


def _number_over(mix, x, y):
    """Return the share of (x, y) times the bottom of the mix."""
    top, bottom = mix.share(x, y)
    return top * (mix.bottom // bottom)
