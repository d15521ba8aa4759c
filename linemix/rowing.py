"""Rows of the places in any order: what they turn, and costs and worths over them."""

from linemix.costs import check_tolled, payment_over_rows
from linemix.counts import check_fit
from linemix.errors import TooMany
from linemix.ladders import richest_row
from linemix.lines import checked_row, ranks_of, row_of
from linemix.pairs import all_pairs
from linemix.payments import total_of
from linemix.places import places_of, wrong_entry
from linemix.turning import line_turning
from linemix.wants import wants_of

MOST_CHOSEN = 12


def _turned_by(order, row):
    """Return the pairs (x, y), ascending, with x in the row behind all places of the row under y."""
    ranks = ranks_of(row)
    latest = [max([ranks[place] for place in row if order.is_under(place, y)], default=-1) for y in range(order.size)]
    return tuple([(x, y) for x, y in all_pairs(order) if x in ranks and ranks[x] > latest[y]])


def row_turns(order, row):
    """Return the lot of the pairs (x, y) with x behind all places under y in the row."""
    return _turned_by(order, row_of(row, order.size))


def row_turns_back(order, row):
    """Return the lot of the pairs (x, y) with y ahead of all places that x is under in the row."""
    back = row_of(row, order.size)[::-1]
    return tuple(sorted([(y, x) for x, y in _turned_by(~order, back)]))


def line_of_row(order, row):
    """Return a line that turns all pairs of row_turns."""
    return line_turning(order, row_turns(order, row))


def chosen_turns(order, chosen, row):
    """Return the lot of the pairs (x, y), x in the set chosen, with x behind all places of the set under y in the row.

    The row is one of just the places of the set.
    """
    places = places_of(chosen, order.size)
    wrong = wrong_entry(row, lambda entry: entry in places)
    return _turned_by(order, checked_row(row, wrong, len(places)))


def _check_chosen(counts):
    """Raise TooMany if the pairs with a count above 0 have more places x than rows are made of."""
    if len({x for x, _, _ in counts.rows}) > MOST_CHOSEN:
        raise TooMany(MOST_CHOSEN)


def row_cost(order, tolls):
    """Return the cost of the tolls over rows of the x of tolled pairs."""
    check_fit(order, tolls)
    check_tolled(tolls)
    _check_chosen(tolls)
    return total_of(payment_over_rows(order, tolls))


def row_worth(order, weights):
    """Return the greatest sum of weights at the row_turns of a row of all places, and a row with this sum."""
    check_fit(order, weights)
    _check_chosen(weights)
    return richest_row(order.belows, wants_of(order, weights), [weight for _, _, weight in weights.rows])
