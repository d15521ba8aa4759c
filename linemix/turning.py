"""Which pairs a line turns, and lines that turn all pairs of a lot."""

from linemix.errors import BadPair
from linemix.lines import least_row, line_of, ranks_of, row_told
from linemix.masks import full_mask
from linemix.pairs import lot_of, open_pairs
from linemix.places import is_place


def _couple_in(value, size):
    """Return the tuple that a list or tuple of two different places tells."""
    if not isinstance(value, (list, tuple)) or len(value) != 2:
        raise BadPair(-1)
    x, y = value
    if not is_place(x, size) or not is_place(y, size) or x == y:
        raise BadPair(-1)
    return x, y


def turns(line, pair):
    """Tell whether the row turns the pair."""
    ranks = ranks_of(row_told(line))
    x, y = _couple_in(pair, len(ranks))
    return ranks[x] > ranks[y]


class Turner:
    """Tells the open pairs that a line of its order turns, when it is called with the line."""

    def __init__(self, order):
        self.order = order
        self._pairs = open_pairs(order)

    def __call__(self, line):
        ranks = ranks_of(line_of(self.order, line))
        return tuple([(x, y) for x, y in self._pairs if ranks[x] > ranks[y]])


def line_turning(order, pairs):
    """Return a line that turns all these pairs, None if there is none; unlike line_for this checks nothing."""
    needs = list(order.belows)
    for x, y in pairs:
        needs[x] = needs[x] | (1 << y)
    return least_row(needs, full_mask(order.size))


def line_for(order, lot):
    """Return a line that turns all pairs of the lot, None if the lot is not turnable."""
    return line_turning(order, lot_of(order, lot))
