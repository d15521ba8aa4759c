"""Clear lines, their mates, and even mixes of them, in which each open pair has half of the total."""

from linemix.lines import free_places, line_of, ranks_of
from linemix.masks import full_mask, places_in
from linemix.mixes import Mix, check_lines
from linemix.numbers import lowest
from linemix.odds import odd_round
from linemix.pairs import open_masks, open_pairs
from linemix.places import couples_of, place_of
from linemix.turning import line_turning


def _stays_clear(order, opens, placed, place):
    """Tell whether a clear line may go on with the place behind those of the mask placed, whatever row these make."""
    beside = opens[place]
    ahead = beside & ~placed
    return all([not order.aboves[low] & ahead for low in places_in(beside & placed)])


def is_clear(order, line):
    """Tell whether no place stands in the line between the two places of a step to both of which it is open."""
    row = line_of(order, line)
    opens = open_masks(order)
    placed = 0
    for place in row:
        if not _stays_clear(order, opens, placed, place):
            return False
        placed = placed | (1 << place)
    return True


def mate(order, line):
    """Return the line that turns just the open pairs that this line does not turn, None if there is none."""
    ranks = ranks_of(line_of(order, line))
    return line_turning(order, [(x, y) for x, y in open_pairs(order) if ranks[x] < ranks[y]])


def _clear_end(order, opens, placed, failed):
    """Return the first row of all other places with which a clear line can go on behind those of the mask placed.

    The answer is None if there is none. failed collects the masks for which this was found.
    """
    left = full_mask(order.size) ^ placed
    if not left:
        return ()
    if placed in failed:
        return None
    for place in free_places(order.belows, left):
        if _stays_clear(order, opens, placed, place):
            rest = _clear_end(order, opens, placed | (1 << place), failed)
            if rest is not None:
                return (place,) + rest
    failed[placed] = True
    return None


def clear_line(order):
    """Return the first clear line, ascending, None if there is none."""
    # An odd round shows at once that there is none; else the search seldom leads astray.
    if odd_round(order) is not None:
        return None
    return _clear_end(order, open_masks(order), 0, {})


def even_mix(order):
    """Return the mix of a clear line and its mate, None if there is no clear line."""
    line = clear_line(order)
    if line is None:
        return None
    return Mix(1, [(line, 1), (mate(order, line), 1)])


def is_even(order, mix):
    """Tell whether the total of the mix is above 0 and the share of each open pair is half of it."""
    check_lines(order, mix)
    if not mix.rows:
        return False
    top, bottom = mix.total
    half = lowest(top, 2 * bottom)
    return all([mix.share(x, y) == half for x, y in couples_of(list(range(order.size))) if order.are_open(x, y)])


def even_place(order, x):
    """Return the mean place of x, from 1 on, in a clear line and its mate, if the order is even."""
    place = place_of(x, order.size, "x")
    return lowest(order.size + 1 + len(order.below(place)) - len(order.above(place)), 2)
