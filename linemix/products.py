"""Products of orders, and tolls at their ends."""

from linemix.counts import Counts, check_fit
from linemix.errors import BadMix, NoEnds, TooMany
from linemix.lines import least_line, line_of, ranks_of
from linemix.mixes import Mix
from linemix.numbers import check_number
from linemix.orders import MOST_PLACES, Order
from linemix.shapes import chain


def multiplied(*orders):
    """Return the product of the orders, from the left."""
    made = Order.empty(1)
    for order in orders:
        made = made * order
    return made


def ends_of(order):
    """Return the tuple (least place, greatest place)."""
    ends = order.ends()
    if ends is None:
        raise NoEnds()
    return ends


def _check_product(one, other):
    """Raise BadNumber if the product would have too many places."""
    check_number(one.size * other.size, "size", 1, MOST_PLACES)


def end_counts(one, other, tolls, others):
    """Return the tolls of one order at the end pairs of the first sort of the product, the others at the second sort.
    """
    low, high = ends_of(one)
    its_low, its_high = ends_of(other)
    _check_product(one, other)
    check_fit(one, tolls)
    check_fit(other, others)
    many = other.size
    first = [(x * many + its_low, y * many + its_high, toll) for x, y, toll in tolls.rows]
    return Counts(first + [(low * many + u, high * many + v, toll) for u, v, toll in others.rows])


def _both_lines(one, other, line, beside):
    """Return lines of the two orders, checked."""
    _check_product(one, other)
    told = line_of(one, line)
    return told, line_of(other, beside)


def first_line(one, other, line, beside):
    """Return the line of the product with the places in the order of the line, then in that of the line beside."""
    told, its_told = _both_lines(one, other, line, beside)
    return tuple([x * other.size + u for x in told for u in its_told])


def second_line(one, other, line, beside):
    """Return the line of the product with the places in the order of the line beside, then in that of the line."""
    told, its_told = _both_lines(one, other, line, beside)
    return tuple([x * other.size + u for u in its_told for x in told])


def product_mix(one, other, mix, mixes):
    """Return a mix of lines of the product that pays what the mix and the mixes pay together."""
    _check_product(one, other)
    check_both(one, other, mix, mixes)
    beside = least_line(other)
    line = least_line(one)
    first = [(first_line(one, other, told, beside), number) for told, number in mix.rows]
    second = [(second_line(one, other, line, told), number) for told, number in mixes.rows]
    return Mix(mix.bottom, first) + Mix(mixes.bottom, second)


def check_both(one, other, mix, mixes):
    """Raise BadMix unless the lines of both mixes are lines of the two orders."""
    if not mix.holds_in(one):
        raise BadMix(0)
    if not mixes.holds_in(other):
        raise BadMix(1)


def with_ends(order):
    """Return the order with a new least place, numbered 0, and a new greatest one, numbered last."""
    if order.size + 2 > MOST_PLACES:
        raise TooMany(MOST_PLACES)
    return chain(1) >> order >> chain(1)


def end_sort(one, other, line):
    """Return "first" or "second": the sort of the end pairs that the line of the product turns."""
    low, high = ends_of(one)
    its_low, its_high = ends_of(other)
    ranks = ranks_of(line_of(one * other, line))
    return "first" if ranks[high * other.size + its_low] > ranks[low * other.size + its_high] else "second"
