"""A game: one side names a line, the other one a tolled pair, which pays 1 / toll if the line turns it."""

from linemix.costs import best_mix, best_paper, cost
from linemix.errors import NoPairs
from linemix.mixes import Mix
from linemix.papers import Paper


def _check_tolled(tolls):
    """Raise NoPairs if no toll is above 0; such tolls fit each order."""
    if len(tolls) == 0:
        raise NoPairs()


def game_value(order, tolls):
    """Return 1 divided by the cost."""
    _check_tolled(tolls)
    top, bottom = cost(order, tolls)
    return bottom, top


def line_side(order, tolls):
    """Return a mix of total 1 in which the share of each tolled pair is at least its toll times the value."""
    _check_tolled(tolls)
    mix = best_mix(order, tolls)
    return Mix(sum([number for _, number in mix.rows]), mix.rows)


def pair_side(order, tolls):
    """Return a paper whose value at the tolls is 1, while no line turns weights of more than the value of the game."""
    _check_tolled(tolls)
    weights = best_paper(order, tolls).counts
    return Paper(weights.product_sum(tolls), weights)
