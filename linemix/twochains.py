"""Couples of pairs against one another, which alone tell costs where no three places are pairwise open."""

from linemix.counts import check_fit
from linemix.pairs import are_against
from linemix.places import couples_of
from linemix.quiets import greatest_quiet
from linemix.rings import listed_lot


def dearest_couple(order, tolls):
    """Return the greatest toll or sum of two tolls at pairs against one another, and the least lot that has it."""
    check_fit(order, tolls)
    told = [(toll, ((x, y),)) for x, y, toll in tolls.rows]
    for (x, y, toll), (a, b, other) in couples_of(tolls.rows):
        if are_against(order, (x, y), (a, b)):
            told.append((toll + other, ((x, y), (a, b))))
    greatest = max([number for number, _ in told], default=0)
    return greatest, min([lot for number, lot in told if number == greatest], default=())


def richest_quiet(order, weights):
    """Return the greatest sum of weights over a quiet lot, and such a lot of pairs with a weight above 0."""
    check_fit(order, weights)
    pairs = listed_lot(order, [(x, y) for x, y, _ in weights.rows])
    told = [(sum([weights.rows[at][2] for at in lot]), tuple([pairs[at] for at in lot]))
            for lot in greatest_quiet(order, pairs)]
    return max(told)
