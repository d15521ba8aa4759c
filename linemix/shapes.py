"""Orders of some well-known shapes."""

from linemix.errors import BadParts, TooMany
from linemix.numbers import check_number, is_at_least
from linemix.orders import MOST_PLACES, Order

MOST_COUPLES = MOST_PLACES // 2


def chain(size):
    """Return the order 0 < 1 < .. < size - 1."""
    check_number(size, "size", 1, MOST_PLACES)
    return Order(size, [(place, place + 1) for place in range(size - 1)])


def antichain(size):
    """Return the order of that size without steps."""
    return Order.empty(size)


def _two_rows(many, reach):
    """Return the order of the places a_i = i and b_j = many + j with a_i below b_j unless j is i, .., i + reach.

    Numbers of places are taken modulo many.
    """
    indexes = range(many)
    return Order(2 * many, [(i, many + j) for i in indexes for j in indexes if (j - i) % many > reach])


def standard(many):
    """Return the order in which each a_i is below all b_j but b_i."""
    check_number(many, "many", 2, MOST_COUPLES)
    return _two_rows(many, 0)


def crown(many, *, reach=0):
    """Return the order in which each a_i is below all b_j but b_i, .., b_(i + reach)."""
    check_number(many, "many", 3, MOST_COUPLES)
    check_number(reach, "reach", 0, many - 3)
    return _two_rows(many, reach)


def bent():
    """Return the bent order of six places."""
    return Order(6, [(0, 1), (1, 2), (0, 2), (3, 4), (4, 2), (3, 2), (0, 5), (3, 5)])


def stacked(sizes):
    """Return the stack of antichains of these sizes, the first one lowest."""
    _check_sizes(sizes)
    if sum(sizes) > MOST_PLACES:
        raise TooMany(MOST_PLACES)
    levels = [level for level, many in enumerate(sizes) for _ in range(many)]
    places = range(len(levels))
    return Order(len(levels), [(low, high) for low in places for high in places if levels[low] < levels[high]])


def _check_sizes(sizes):
    """Raise BadParts unless sizes is a list or tuple of one or more integers at least 1."""
    if not isinstance(sizes, (list, tuple)):
        raise BadParts(-1)
    if not sizes:
        raise BadParts(0)
    for at, many in enumerate(sizes):
        if not is_at_least(many, 1):
            raise BadParts(at)
