"""Orders put in for the places of an order, with their tolls, weights and mixes."""

from math import lcm

from linemix.costs import cost
from linemix.counts import Counts, check_fit
from linemix.errors import BadParts, BadRates, TooMany
from linemix.lines import least_line
from linemix.mixes import Mix, check_lines
from linemix.numbers import greater_of, is_at_least
from linemix.orders import MOST_PLACES, Order
from linemix.places import place_of
from linemix.tracks import side_by_side
from linemix.worths import worth


def _check_kinds(value, kind_fits):
    """Raise BadParts unless the value is a list or tuple of entries that fit."""
    if not isinstance(value, (list, tuple)):
        raise BadParts(-1)
    for at, entry in enumerate(value):
        if not kind_fits(entry):
            raise BadParts(at)


def _check_parts(parts):
    """Raise BadParts unless parts is a list or tuple of one or more orders."""
    _check_kinds(parts, lambda part: isinstance(part, Order))
    if len(parts) == 0:
        raise BadParts(0)


def _check_parts_of(order, parts):
    """Raise BadParts unless parts is a list or tuple of an order for each place of the order."""
    _check_kinds(parts, lambda part: isinstance(part, Order))
    if len(parts) != order.size:
        raise BadParts(len(parts))


def _check_size(parts):
    """Raise TooMany if the parts have too many places together."""
    if sum([part.size for part in parts]) > MOST_PLACES:
        raise TooMany(MOST_PLACES)


def _check_inner(parts, inner):
    """Raise BadParts or Unfit unless inner is a list or tuple of counts that fit the parts in turn."""
    _check_kinds(inner, lambda counts: isinstance(counts, Counts))
    if len(inner) != len(parts):
        raise BadParts(len(inner))
    for part, counts in zip(parts, inner):
        check_fit(part, counts)


def _check_mixes(parts, mixes):
    """Raise BadParts unless mixes is a list or tuple of a mix of lines of each part in turn."""
    if not isinstance(mixes, (list, tuple)):
        raise BadParts(-1)
    for at, (part, mix) in enumerate(zip(parts, mixes)):
        if not isinstance(mix, Mix) or not mix.holds_in(part):
            raise BadParts(at)
    if len(mixes) != len(parts):
        raise BadParts(len(mixes))


def _is_load(value, many):
    """Tell whether the value is a list or tuple of so many integers at least 0, not all of them 0."""
    if not isinstance(value, (list, tuple)) or len(value) != many:
        return False
    return all([is_at_least(load, 0) for load in value]) and sum(value) > 0


def _check_loads(parts, loads):
    """Raise BadRates unless loads is a list or tuple of loads of the places of each part in turn."""
    if not isinstance(loads, (list, tuple)):
        raise BadRates(-1)
    for at, (part, value) in enumerate(zip(parts, loads)):
        if not _is_load(value, part.size):
            raise BadRates(at)
    if len(loads) != len(parts):
        raise BadRates(len(loads))


def _starts_of(parts):
    """Return for each part the number of its first place in the made order."""
    starts = []
    start = 0
    for part in parts:
        starts.append(start)
        start = start + part.size
    return starts


def _couples_between(parts, couples):
    """Return the list of all couples of places of the made order, one of each of two parts whose numbers are told."""
    starts = _starts_of(parts)
    return [(starts[x] + u, starts[y] + v) for x, y in couples for u in range(parts[x].size)
            for v in range(parts[y].size)]


def put_in(order, parts):
    """Return the order with its parts put in for its places."""
    _check_parts_of(order, parts)
    _check_size(parts)
    inner = [(start + low, start + high) for part, start in zip(parts, _starts_of(parts)) for low, high in part]
    return Order(sum([part.size for part in parts]), inner + _couples_between(parts, order.steps_told()))


def part_place(parts, x, u):
    """Return the number in the made order of place u of part x."""
    _check_parts(parts)
    place_of(x, len(parts), "x")
    place_of(u, parts[x].size, "u")
    _check_size(parts)
    return _starts_of(parts)[x] + u


def parts_at(parts, number):
    """Return the tuple of the number of the part and the place there of a place of the made order."""
    _check_parts(parts)
    place_of(number, sum([part.size for part in parts]), "number")
    _check_size(parts)
    x = [at for at, start in enumerate(_starts_of(parts)) if start <= number][-1]
    return x, number - _starts_of(parts)[x]


def cross_counts(order, parts, counts):
    """Return the counts of (x, y) at each cross pair from part x to part y."""
    _check_parts_of(order, parts)
    check_fit(order, counts)
    _check_size(parts)
    return Counts([(low, high, number) for x, y, number in counts.rows
                   for low, high in _couples_between(parts, [(x, y)])])


def inner_counts(parts, x, counts):
    """Return the counts of part x at its places in the made order."""
    _check_parts(parts)
    place_of(x, len(parts), "x")
    check_fit(parts[x], counts)
    _check_size(parts)
    start = _starts_of(parts)[x]
    return Counts([(start + u, start + v, number) for u, v, number in counts.rows])


def put_cost(order, tolls, parts, inner):
    """Return the cost of the tolls at cross pairs and of the inner ones together."""
    check_fit(order, tolls)
    _check_parts_of(order, parts)
    _check_inner(parts, inner)
    _check_size(parts)
    total = cost(order, tolls)
    for part, counts in zip(parts, inner):
        total = greater_of(total, cost(part, counts))
    return total


def spread_counts(order, parts, weights, loads):
    """Return the counts of (x, y) at each cross pair from part x to part y, times the loads of both its places."""
    _check_parts_of(order, parts)
    check_fit(order, weights)
    _check_loads(parts, loads)
    _check_size(parts)
    flat = [load for value in loads for load in value]
    return Counts([(low, high, number * flat[low] * flat[high]) for x, y, number in weights.rows
                   for low, high in _couples_between(parts, [(x, y)])])


def put_worth(order, parts, weights, loads, inner):
    """Return the worth of the spread counts and of all inner ones together."""
    _check_parts_of(order, parts)
    check_fit(order, weights)
    _check_loads(parts, loads)
    _check_inner(parts, inner)
    _check_size(parts)
    sums = [sum(value) for value in loads]
    total = worth(order, Counts([(x, y, number * sums[x] * sums[y]) for x, y, number in weights.rows]))
    return total + sum([worth(part, counts) for part, counts in zip(parts, inner)])


def inner_mix(order, parts, mix, mixes):
    """Return a mix of lines of the made order with the shares of the mix at cross pairs, of the mixes at inner ones."""
    _check_parts_of(order, parts)
    check_lines(order, mix)
    _check_mixes(parts, mixes)
    _check_size(parts)
    bottom = mix.bottom
    for other in mixes:
        bottom = lcm(bottom, other.bottom)
    tracks = [[(line, number * (bottom // part.bottom)) for line, number in part] for part in [mix, *mixes]]
    starts = _starts_of(parts)
    rows = []
    for lines, number in side_by_side(tracks, [least_line(part) for part in [order, *parts]]):
        rows.append((tuple([starts[x] + u for x in lines[0] for u in lines[x + 1]]), number))
    return Mix(bottom, rows)
