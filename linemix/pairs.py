"""Pairs of an order, lots of them, and which pairs are against one another."""

from linemix.errors import BadPair
from linemix.masks import full_mask
from linemix.places import couples_of, is_place


def reaches(order, low, high):
    """Tell whether the place low is under the place high; unlike Order.is_under this checks nothing."""
    return low == high or order.aboves[low] >> high & 1 == 1


def is_pair(order, value):
    """Tell whether a value of any kind is a list or tuple that tells a pair of the order."""
    if not isinstance(value, (list, tuple)) or len(value) != 2:
        return False
    x, y = value
    return is_place(x, order.size) and is_place(y, order.size) and not reaches(order, x, y)


def pair_in(order, value):
    """Return the pair that a list or tuple of two places tells."""
    if not is_pair(order, value):
        raise BadPair(-1)
    return tuple(value)


def row_of_pairs(order, value):
    """Return the pairs that a list or tuple tells, in the order told, with repetitions."""
    if not isinstance(value, (list, tuple)):
        raise BadPair(-2)
    for at, entry in enumerate(value):
        if not is_pair(order, entry):
            raise BadPair(at)
    return tuple([tuple(entry) for entry in value])


def lot_of(order, value):
    """Return the lot that a list or tuple of different pairs tells."""
    if not isinstance(value, (list, tuple)):
        raise BadPair(-2)
    seen = set()
    for at, entry in enumerate(value):
        if not is_pair(order, entry) or tuple(entry) in seen:
            raise BadPair(at)
        seen.add(tuple(entry))
    return tuple(sorted(seen))


def open_masks(order):
    """Return for each place the mask of the places open to it."""
    full = full_mask(order.size)
    return [full ^ (1 << place) ^ order.aboves[place] ^ order.belows[place] for place in range(order.size)]


def all_pairs(order):
    """Return the lot of all pairs."""
    places = range(order.size)
    return tuple([(x, y) for x in places for y in places if not reaches(order, x, y)])


def open_pairs(order):
    """Return the lot of all open pairs."""
    return tuple([(x, y) for x, y in all_pairs(order) if not reaches(order, y, x)])


def sure_pairs(order):
    """Return the lot of all sure pairs."""
    return tuple([(x, y) for x, y in all_pairs(order) if reaches(order, y, x)])


def are_against(order, pair, other):
    """Tell whether two pairs are against one another; unlike against this checks nothing."""
    return reaches(order, pair[0], other[1]) and reaches(order, other[0], pair[1])


def against(order, pair, other):
    """Tell whether the two pairs are against one another."""
    first = pair_in(order, pair)
    second = pair_in(order, other)
    return are_against(order, first, second)


def pairs_against(order, pair):
    """Return the lot of the pairs against the pair."""
    told = pair_in(order, pair)
    return tuple([other for other in all_pairs(order) if are_against(order, told, other)])


def is_quiet(order, lot):
    """Tell whether no two pairs of the lot are against one another."""
    for pair, other in couples_of(lot_of(order, lot)):
        if are_against(order, pair, other):
            return False
    return True
