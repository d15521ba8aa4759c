"""What costs become if an open couple is tied, or a next step is taken back."""

from linemix.costs import MOST_TOLLED, cost
from linemix.counts import check_fit, kept_on
from linemix.errors import TooMany
from linemix.faces import share_reached
from linemix.lines import line_of
from linemix.mixes import Mix, check_lines
from linemix.numbers import add_up, scaled
from linemix.pairs import reaches
from linemix.ties import check_open, tied, untied

NAMES = ("u", "v")


def tie_lines(order, u, v, line):
    """Return two lines of the order with u below v: each pair there that the line turns is turned by one of them."""
    check_open(order, u, v, NAMES)
    return _tied_lines(order, u, v, line_of(order, line))


def _tied_lines(order, u, v, line):
    """Return what tie_lines does; nothing is checked."""
    begin = line.index(v)
    end = line.index(u)
    if end < begin:
        return line, line
    # Either what v is under moves behind u, or what is under u moves ahead of v.
    middle = line[begin:end + 1]
    high = tuple([place for place in middle if not reaches(order, v, place)])
    raised = high + tuple([place for place in middle if reaches(order, v, place)])
    low = tuple([place for place in middle if reaches(order, place, u)])
    lowered = low + tuple([place for place in middle if not reaches(order, place, u)])
    return line[:begin] + raised + line[end + 1:], line[:begin] + lowered + line[end + 1:]


def tie_mix(order, u, v, mix):
    """Return a mix of lines of the order with u below v, which pays there what the mix pays."""
    check_open(order, u, v, NAMES)
    check_lines(order, mix)
    rows = []
    for line, number in mix.rows:
        first, second = _tied_lines(order, u, v, line)
        rows.append((first, number))
        if second != line:
            rows.append((second, number))
    return Mix(mix.bottom, rows)


def tie_ends(order, tolls, u, v):
    """Return the cost in the order, that with u below v, and twice the first less the greatest share of (v, u)."""
    check_fit(order, tolls)
    check_open(order, u, v, NAMES)
    beside = tied(order, (u, v))
    kept = kept_on(beside, tolls)
    if len(kept.with_count(v, u, 1)) > MOST_TOLLED:
        raise TooMany(MOST_TOLLED)
    least = cost(order, kept)
    top, bottom = share_reached(order, kept, (v, u))
    return least, cost(beside, kept), add_up(scaled(least, 2), (-top, bottom))


def three_costs(order, tolls, x, y):
    """Return the costs in the order, with x below y, and with y below x, of the tolls kept on both; x and y are open.
    """
    first = tied(order, (x, y))
    second = tied(order, (y, x))
    kept = kept_on(second, kept_on(first, tolls))
    return cost(order, kept), cost(first, kept), cost(second, kept)


def both_ties(order, tolls, u, v):
    """Return the costs in the order, with u below v, and with v below u, of the tolls kept on both."""
    check_fit(order, tolls)
    check_open(order, u, v, NAMES)
    return three_costs(order, tolls, u, v)


def untied_bound(order, tolls, u, v):
    """Return what the tolls cost at most if the next step (u, v) is taken back."""
    fewer = untied(order, u, v)
    check_fit(fewer, tolls)
    return add_up(cost(order, kept_on(order, tolls)), (tolls[u, v], 1))
