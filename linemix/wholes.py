"""Whole costs: the fewest lines, repeats counted, that turn each pair as often as its toll says."""

from linemix.costs import check_lower_sets, tight_ones
from linemix.counts import check_fit
from linemix.covers import Cover
from linemix.errors import TooMany
from linemix.ladders import Ladder
from linemix.lots import greatest_lots
from linemix.wants import knots_of, narrowed, row_serving, wants_of

MOST_TOLLED = 12
MOST_IN_ALL = 24


def check_few(order, tolls):
    """Raise an error unless the tolls fit the order and are few and small enough for a whole cost."""
    check_fit(order, tolls)
    if len(tolls) > MOST_TOLLED:
        raise TooMany(MOST_TOLLED)
    if tolls.total_count() > MOST_IN_ALL:
        raise TooMany(MOST_IN_ALL)


def _fewest_lots(order, tolls, knot):
    """Return a list of lots, as short as can be, that pays the tolls of a knot; each want is told by its number."""
    if len(knot) == 1:
        return [knot] * tolls.rows[knot[0]][2]
    pairs = [tolls.rows[at][:2] for at in knot]
    # All lots that a line turns lie in these, so no other ones need be tried.
    greatest = [tuple([pairs.index(pair) for pair in lot]) for lot in greatest_lots(order, pairs)]
    needs, wants = narrowed(order.belows, [wants_of(order, tolls)[at] for at in knot])
    found = Cover(Ladder(needs, wants), greatest).fewest([tolls.rows[at][2] for at in knot])
    return [tuple([knot[at] for at in lot]) for lot in found]


def _knots_paid(order, tolls):
    """Return for each knot of the tolled pairs a list of lots that pays it, as short as can be."""
    check_few(order, tolls)
    check_lower_sets(order)
    knots = knots_of(order.belows, wants_of(order, tolls), [toll for _, _, toll in tolls.rows])
    return [_fewest_lots(order, tolls, knot) for knot in knots]


def whole_lines(order, tolls):
    """Return a list of as few lines as can be, ascending, that turn each pair at least as often as its toll."""
    paid = _knots_paid(order, tolls)
    wants = wants_of(order, tolls)
    lines = []
    for turn in range(max([len(lots) for lots in paid], default=0)):
        served = [wants[at] for lots in paid for at in (lots[turn] if turn < len(lots) else ())]
        lines.append(row_serving(order.belows, served))
    return sorted(lines)


def whole_cost(order, tolls):
    """Return the least number of lines, repeats counted, that turn each pair at least as often as its toll."""
    return max([len(lots) for lots in _knots_paid(order, tolls)], default=0)


def dimension(order):
    """Return the whole cost of the toll 1 at all pairs."""
    return whole_cost(order, tight_ones(order))
