"""Orders without some of their places, and what these places add to a cost at most."""

from linemix.chains import chain_of
from linemix.costs import cost
from linemix.counts import Counts, check_fit
from linemix.errors import BadPlace, BadSet, NotOpen
from linemix.lines import least_line, line_of
from linemix.mixes import Mix, check_lines
from linemix.numbers import add_up, greater_of
from linemix.pairs import reaches
from linemix.places import place_of, places_of
from linemix.turning import line_turning


def _others(order, places):
    """Return the set of all other places of the order; there must be one."""
    rest = tuple([place for place in range(order.size) if place not in places])
    if not rest:
        raise BadSet(order.size)
    return rest


def counts_at(tolls, rest):
    """Return the tolls between these places, renumbered as the places are."""
    numbers = {place: at for at, place in enumerate(rest)}
    return Counts([(numbers[x], numbers[y], toll) for x, y, toll in tolls.rows if x in numbers and y in numbers])


def _cost_at(order, tolls, rest):
    """Return the cost of the tolls between these places."""
    return cost(order.on(rest), counts_at(tolls, rest))


def without(order, chosen):
    """Return the order without a set of places."""
    return order.on(_others(order, places_of(chosen, order.size)))


def tolls_without(order, tolls, chosen):
    """Return the tolls without a set of places."""
    check_fit(order, tolls)
    return counts_at(tolls, _others(order, places_of(chosen, order.size)))


def _greatest_over(tolls, x):
    """Return the greatest toll of the pairs with this first place, 0 if there is none."""
    return max([toll for first, _, toll in tolls.rows if first == x], default=0)


def _greatest_under(tolls, y):
    """Return the greatest toll of the pairs with this second place, 0 if there is none."""
    return max([toll for _, second, toll in tolls.rows if second == y], default=0)


def tolls_at(order, tolls, x):
    """Return the greatest toll of the pairs that have x first, and that of the pairs that have x second."""
    check_fit(order, tolls)
    place = place_of(x, order.size, "x")
    return _greatest_over(tolls, place), _greatest_under(tolls, place)


def _line_without(order, x, line):
    """Return the line of the order without the place x, in the numbers of the order."""
    rest = _others(order, (place_of(x, order.size, "x"),))
    return tuple([rest[at] for at in line_of(order.on(rest), line)])


def _with_high(order, x, row):
    """Return the row of all other places with x ahead of those above it, which are put behind the rest."""
    above = order.above(x)
    return tuple([place for place in row if place not in above] + [x] + [place for place in row if place in above])


def _with_low(order, x, row):
    """Return the row of all other places with x behind those below it, which are put ahead of the rest."""
    below = order.below(x)
    return tuple([place for place in row if place in below] + [x] + [place for place in row if place not in below])


def _with_between(order, x, row):
    """Return the row of all other places with x behind those below it, all of them left where they are."""
    ends = [at + 1 for at, place in enumerate(row) if reaches(order, place, x)]
    end = max(ends, default=0)
    return row[:end] + (x,) + row[end:]


def up_line(order, x, line):
    """Return a line that turns all pairs with x first, made of a line of the order without x."""
    return _with_high(order, x, _line_without(order, x, line))


def down_line(order, x, line):
    """Return a line that turns all pairs with x second, made of a line of the order without x."""
    return _with_low(order, x, _line_without(order, x, line))


def place_mix(order, tolls, x, mix):
    """Return a mix that pays the tolls if the mix of lines of the order without x pays those without x."""
    high, low = tolls_at(order, tolls, x)
    rest = _others(order, (x,))
    fewer = order.on(rest)
    check_lines(fewer, mix)
    rows = [(tuple([rest[at] for at in line]), number) for line, number in mix.rows]
    spare = tuple([rest[at] for at in least_line(fewer)])
    # The lines must weigh enough for the lesser one of both tolls at x.
    lacking = min(high, low) * mix.bottom - sum([number for _, number in rows])
    if lacking > 0:
        rows.append((spare, lacking))
    return Mix(mix.bottom, _rows_with(order, x, rows, max(high, low) * mix.bottom, (spare, high >= low)))


def _rows_with(order, x, rows, asked, more):
    """Return the rows with x put in, high and low in lines of the number asked, and so many lines more.

    Where the lines are too few, more tells the line of which the rest is made, and whether x is high there.
    """
    made = []
    left = asked
    for row, number in rows:
        twice = min(left, number)
        made.append((_with_high(order, x, row), twice))
        made.append((_with_low(order, x, row), twice))
        made.append((_with_between(order, x, row), number - twice))
        left = left - twice
    spare, is_high = more
    made.append((_with_high(order, x, spare) if is_high else _with_low(order, x, spare), left))
    return [(row, number) for row, number in made if number]


def place_bound(order, tolls, x):
    """Return what the tolls cost at most, told by their cost without x and the tolls at x."""
    high, low = tolls_at(order, tolls, x)
    rest = _others(order, (x,))
    return add_up(greater_of(_cost_at(order, tolls, rest), (min(high, low), 1)), (max(high, low), 1))


def chain_bound(order, tolls, chosen):
    """Return what the tolls cost at most, told by their cost without a chain and the tolls at it."""
    check_fit(order, tolls)
    places = chain_of(order, chosen)
    rest = _others(order, places)
    under = max([_greatest_under(tolls, place) for place in places], default=0)
    over = max([_greatest_over(tolls, place) for place in places], default=0)
    return add_up(_cost_at(order, tolls, rest), (under + over, 1))


def _check_couple(order, x, y):
    """Raise an error unless x is a bottom place and y a top place that is open to it."""
    if place_of(x, order.size, "x") not in order.bottoms():
        raise BadPlace("x")
    if place_of(y, order.size, "y") not in order.tops():
        raise BadPlace("y")
    if not order.are_open(x, y):
        raise NotOpen(x, y)


def couple_bound(order, tolls, x, y):
    """Return what the tolls cost at most, told by their cost without an open bottom and top place and the tolls there.
    """
    check_fit(order, tolls)
    _check_couple(order, x, y)
    rest = _others(order, (x, y))
    along = max(_greatest_over(tolls, x), _greatest_under(tolls, y))
    back = max(_greatest_under(tolls, x), _greatest_over(tolls, y))
    return add_up(greater_of(_cost_at(order, tolls, rest), (back, 1)), (along, 1))


def couple_line(order, x, y):
    """Return a line that turns all pairs with x first and all pairs with y second."""
    _check_couple(order, x, y)
    places = range(order.size)
    high = [(x, place) for place in places if not reaches(order, x, place)]
    return line_turning(order, high + [(place, y) for place in places if not reaches(order, place, y)])
