"""For the package itself: what tolls at wants cost, rows that pay them, and weights that show the cost.

needs and wants are told as in linemix.wants; tolls holds a number above 0 for each want. A part of a payment is a tuple
(bottom, lots, weights) for one knot of wants: lots is a list of tuples (lot, number), weights one of tuples (want,
number), a want being told by its number. The numbers of the lots, and the tolls times the weights, both sum up to the
cost of the knot times the bottom.
"""

from math import lcm

from linemix.ladders import Ladder
from linemix.numbers import greater_of, lowest
from linemix.simplex import least_mix
from linemix.tracks import side_by_side
from linemix.wants import knots_of, narrowed, row_serving


def _paid_knot(needs, wants, tolls, knot):
    """Return the part of the payment for one knot."""
    if len(knot) == 1:
        return 1, [(knot, tolls[knot[0]])], [(knot[0], 1)]
    few_needs, few_wants = narrowed(needs, [wants[at] for at in knot])
    bottom, lots, weights = least_mix(Ladder(few_needs, few_wants), [tolls[at] for at in knot])
    return bottom, [(tuple([knot[at] for at in lot]), number) for lot, number in lots], list(zip(knot, weights))


def paid_knots(needs, wants, tolls):
    """Return the list of the parts of a payment."""
    return [_paid_knot(needs, wants, tolls, knot) for knot in knots_of(needs, wants, tolls)]


def _cost_of(part):
    """Return what one knot costs."""
    return lowest(sum([number for _, number in part[1]]), part[0])


def total_of(parts):
    """Return what all knots cost together: as much as the dearest one."""
    total = (0, 1)
    for part in parts:
        total = greater_of(total, _cost_of(part))
    return total


def rows_of(needs, wants, parts):
    """Return a tuple (bottom, list of tuples (row, number)): rows of all points that pay, with the least total."""
    bottom = 1
    for part in parts:
        bottom = lcm(bottom, part[0])
    tracks = [[(lot, number * (bottom // part[0])) for lot, number in part[1]] for part in parts]
    rows = []
    for lots, number in side_by_side(tracks, [()] * len(tracks)):
        rows.append((row_serving(needs, [wants[at] for lot in lots for at in lot]), number))
    return bottom, rows


def weights_of(parts):
    """Return a tuple (bottom, list of tuples (want, number)): weights that show the cost, those of a dearest knot."""
    total = total_of(parts)
    shown = [(part[0], part[2]) for part in parts if _cost_of(part) == total]
    return shown[0] if shown else (1, [])
