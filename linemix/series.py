"""Orders made of single places by putting them above and beside one another, with their tolls."""

from linemix.counts import Counts
from linemix.errors import BadParts, TooMany
from linemix.numbers import check_number
from linemix.orders import MOST_PLACES, Order


class Node:
    """A tree that tells an order and tolls; each kind of node is a class below this one."""


def _check_nodes(nodes):
    """Raise BadParts for the first one that is no node."""
    for at, node in enumerate(nodes):
        if not isinstance(node, Node):
            raise BadParts(at)


def _places_of(nodes):
    """Return for each node the range of its places, as a tuple, if they are numbered through the nodes."""
    found = []
    start = 0
    for node in nodes:
        found.append(tuple(range(start, start + node.size_of())))
        start = start + node.size_of()
    return found


def _check_size(nodes):
    """Raise TooMany if the nodes have too many places together."""
    if sum([node.size_of() for node in nodes]) > MOST_PLACES:
        raise TooMany(MOST_PLACES)


def _inner_rows(nodes):
    """Return the list of the tuples (x, y, toll) that stand within the nodes."""
    rows = []
    for node, places in zip(nodes, _places_of(nodes)):
        rows.extend([(places[x], places[y], toll) for x, y, toll in node.series_tolls()])
    return rows


def _rows_between(highs, lows, toll):
    """Return the list of the tuples (x, y, toll) with x of the first places and y of the second ones."""
    return [(x, y, toll) for x in highs for y in lows]


def _lines_behind(nodes):
    """Return two rows of all places: the first and the second lines of the nodes, one node behind the other."""
    places = _places_of(nodes)
    told = [node.two_lines() for node in nodes]
    return tuple([tuple([row[at] for row, lines in zip(places, told) for at in lines[turn]]) for turn in (0, 1)])


class Leaf(Node):
    """One place."""

    def size_of(self):
        """Return the number of places."""
        return 1

    def series_order(self):
        """Return the order that the node tells."""
        return Order.empty(1)

    def series_tolls(self):
        """Return the tolls on this order."""
        return Counts()

    def series_cost(self):
        """Return the cost of these tolls, and their whole cost."""
        return 0

    def words(self):
        """Return the node as a text."""
        return "1"

    def two_lines(self):
        """Return two lines of which just one turns each open pair."""
        return (0,), (0,)


class Above(Node):
    """The orders of two or more nodes one above another, the first one lowest; a toll at all sure pairs between them.
    """

    def __init__(self, *nodes, toll=0):
        _check_nodes(nodes)
        if len(nodes) < 2:
            raise BadParts(len(nodes))
        self._toll = check_number(toll, "toll", 0, None)
        _check_size(nodes)
        self._nodes = nodes

    def size_of(self):
        """Return the number of places."""
        return sum([node.size_of() for node in self._nodes])

    def series_order(self):
        """Return the order that the node tells."""
        made = self._nodes[0].series_order()
        for node in self._nodes[1:]:
            made = made >> node.series_order()
        return made

    def series_tolls(self):
        """Return the tolls on this order."""
        rows = _inner_rows(self._nodes)
        lows = ()
        for places in _places_of(self._nodes):
            rows.extend(_rows_between(places, lows, self._toll))
            lows = lows + places
        return Counts(rows)

    def series_cost(self):
        """Return the cost of these tolls, and their whole cost."""
        return max([self._toll] + [node.series_cost() for node in self._nodes])

    def words(self):
        """Return the node as a text."""
        told = " < ".join([node.words() for node in self._nodes])
        return f"({told})"

    def two_lines(self):
        """Return two lines of which just one turns each open pair."""
        return _lines_behind(self._nodes)


class Beside(Node):
    """The orders of two nodes beside one another; tolls at all pairs between them, one for each direction."""

    def __init__(self, first, second, *, over=0, back=0):
        _check_nodes((first, second))
        self._over = check_number(over, "over", 0, None)
        self._back = check_number(back, "back", 0, None)
        _check_size((first, second))
        self._nodes = (first, second)

    def size_of(self):
        """Return the number of places."""
        return sum([node.size_of() for node in self._nodes])

    def series_order(self):
        """Return the order that the node tells."""
        first, second = self._nodes
        return first.series_order() + second.series_order()

    def series_tolls(self):
        """Return the tolls on this order."""
        first, second = _places_of(self._nodes)
        between = _rows_between(first, second, self._over) + _rows_between(second, first, self._back)
        return Counts(_inner_rows(self._nodes) + between)

    def series_cost(self):
        """Return the cost of these tolls, and their whole cost."""
        return max([self._over + self._back] + [node.series_cost() for node in self._nodes])

    def words(self):
        """Return the node as a text."""
        told = " , ".join([node.words() for node in self._nodes])
        return f"({told})"

    def two_lines(self):
        """Return two lines of which just one turns each open pair."""
        first, second = _lines_behind(self._nodes)
        many = self._nodes[0].size_of()
        return first, second[many:] + second[:many]


def series_lines(node):
    """Return the list of two lines, ascending, of which just one turns each open pair; of a chain that of its line."""
    return sorted(set(node.two_lines()))


def is_series(order):
    """Tell whether the order is, after renumbering, the order of some node."""
    for low, high in order.steps_told():
        for a in order.below(high):
            for d in order.above(low):
                if order.are_open(a, low) and order.are_open(high, d) and order.are_open(a, d):
                    return False
    return True
