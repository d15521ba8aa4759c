"""Orders made of levels, antichains one above another, and forests."""

from linemix.chains import is_a_chain
from linemix.costs import check_tolled, cost
from linemix.counts import check_fit
from linemix.errors import NotForest, NotLevel
from linemix.masks import places_in
from linemix.numbers import greater_of
from linemix.onemore import counts_at
from linemix.shapes import antichain


def beside_step(order):
    """Return the first step (u, v) with a place open to both, and the least such place z, as (u, v, z), or None."""
    for u, v in order.steps_told():
        beside = [z for z in range(order.size) if order.are_open(u, z) and order.are_open(z, v)]
        if beside:
            return u, v, beside[0]
    return None


def levels_of(order):
    """Return the list of the levels, lowest first, each a set, None if the order is not made of levels."""
    if beside_step(order) is not None:
        return None
    # Where no place is beside a step, places are open just if they have as many places below them.
    ranks = [len(order.below(place)) for place in range(order.size)]
    return [tuple([place for place, rank in enumerate(ranks) if rank == told]) for told in sorted(set(ranks))]


def level_cost(order, tolls):
    """Return the greatest of the tolls at sure pairs and of what the tolls within the levels cost."""
    levels = levels_of(order)
    if levels is None:
        raise NotLevel()
    check_fit(order, tolls)
    check_tolled(tolls)
    total = (max([toll for x, y, toll in tolls.rows if order.is_below(y, x)], default=0), 1)
    for level in levels:
        within = counts_at(tolls, level)
        if len(within):
            total = greater_of(total, cost(antichain(len(level)), within))
    return total


def is_forest(order):
    """Tell whether for each place the places above it are a chain."""
    return all([is_a_chain(order, places_in(mask)) for mask in order.aboves])


def _tree_row(heads, root):
    """Return the row of all that is under the root: one behind the other the rows of the places next below it, then it.

    heads holds the place next above each place that has one.
    """
    row = ()
    for place in heads:
        if heads[place] == root:
            row = row + _tree_row(heads, place)
    return row + (root,)


def tree_line(order):
    """Return a clear line of a forest."""
    if not is_forest(order):
        raise NotForest()
    heads = {low: high for low, high in order.next_steps()}
    line = ()
    for root in order.tops():
        # What stands between the two places of a step is under the upper one: so the line is clear.
        line = line + _tree_row(heads, root)
    return line
