"""Orders: places with steps between them."""

from linemix.errors import BadSet, BadSteps, HasRing, OtherSize
from linemix.masks import places_in
from linemix.numbers import check_number
from linemix.places import is_place, place_of, places_of

MOST_PLACES = 16


def _is_step(value, size):
    """Tell whether the value is a list or tuple of two different places."""
    if not isinstance(value, (list, tuple)) or len(value) != 2:
        return False
    low, high = value
    return is_place(low, size) and is_place(high, size) and low != high


def steps_of(value, size):
    """Return the steps that a list or tuple tells, as a tuple in the order told."""
    if not isinstance(value, (list, tuple)):
        raise BadSteps(-1)
    for at, step in enumerate(value):
        if not _is_step(step, size):
            raise BadSteps(at)
    return tuple([tuple(step) for step in value])


def _followed(size, steps):
    """Return for each place the mask of the places above it, with all steps that follow from those told."""
    # Until the end each mask holds its own place too: so "under" is one look at a bit.
    unders = [1 << place for place in range(size)]
    for at, (low, high) in enumerate(steps):
        if unders[high] >> low & 1:
            raise HasRing(at)
        gain = unders[high]
        unders = [mask | gain if mask >> low & 1 else mask for mask in unders]
    return tuple([mask ^ (1 << place) for place, mask in enumerate(unders)])


def _upside_down(masks):
    """Return for each place the mask of the places whose masks hold it."""
    places = range(len(masks))
    return tuple([sum([1 << low for low in places if masks[low] >> high & 1]) for high in places])


class Order:
    """An order of 1 to 16 places; it never changes.

    Besides the attribute size, the tuples aboves and belows hold for each place the mask of the places above it and
    of those below it.
    """

    def __init__(self, size, steps=()):
        self.size = check_number(size, "size", 1, MOST_PLACES)
        self.aboves = _followed(size, steps_of(steps, size))
        self.belows = _upside_down(self.aboves)
        self._steps = tuple([(low, high) for low in range(size) for high in places_in(self.aboves[low])])

    @classmethod
    def empty(cls, size):
        """Return the order without steps."""
        return cls(size)

    def steps_told(self):
        """Return all steps, ascending."""
        return self._steps

    def next_steps(self):
        """Return the steps with no place between their two places, ascending."""
        return tuple([(low, high) for low, high in self._steps if not self.aboves[low] & self.belows[high]])

    def is_below(self, x, y):
        """Tell whether x is below y."""
        low = place_of(x, self.size, "x")
        high = place_of(y, self.size, "y")
        return self.aboves[low] >> high & 1 == 1

    def is_under(self, x, y):
        """Tell whether x is below y or is y."""
        return self.is_below(x, y) or x == y

    def are_open(self, x, y):
        """Tell whether x and y are different places of which neither is below the other."""
        low = place_of(x, self.size, "x")
        high = place_of(y, self.size, "y")
        return low != high and not (self.aboves[low] | self.belows[low]) >> high & 1

    def below(self, x):
        """Return the set of the places below x."""
        return places_in(self.belows[place_of(x, self.size, "x")])

    def above(self, x):
        """Return the set of the places above x."""
        return places_in(self.aboves[place_of(x, self.size, "x")])

    def bottoms(self):
        """Return the set of the places with none below them."""
        return tuple([place for place in range(self.size) if not self.belows[place]])

    def tops(self):
        """Return the set of the places with none above them."""
        return tuple([place for place in range(self.size) if not self.aboves[place]])

    def on(self, places):
        """Return the sub-order on a set of places."""
        chosen = places_of(places, self.size)
        if not chosen:
            raise BadSet(0)
        numbers = range(len(chosen))
        steps = [(low, high) for low in numbers for high in numbers if self.aboves[chosen[low]] >> chosen[high] & 1]
        return Order(len(chosen), steps)

    def holds(self, other):
        """Tell whether this order has all steps of the other one."""
        if other.size != self.size:
            raise OtherSize(other.size)
        return all([mine | theirs == mine for mine, theirs in zip(self.aboves, other.aboves)])

    def ends(self):
        """Return the tuple (least place, greatest place), or None for an order without ends."""
        lows = self.bottoms()
        highs = self.tops()
        # A single bottom place is the least one, since every place has a bottom place under it; so for the top.
        if self.size == 1 or len(lows) > 1 or len(highs) > 1:
            return None
        return lows[0], highs[0]

    def is_chain(self):
        """Tell whether no two places are open."""
        return len(self._steps) == self.size * (self.size - 1) // 2

    def __eq__(self, other):
        return isinstance(other, Order) and self.size == other.size and self._steps == other._steps

    def __contains__(self, x):
        return x in self._steps

    def __len__(self):
        return len(self.aboves)

    def __iter__(self):
        return iter(self._steps)

    def __add__(self, other):
        size = check_number(self.size + other.size, "size", 1, MOST_PLACES)
        moved = [(low + self.size, high + self.size) for low, high in other.steps_told()]
        return Order(size, self._steps + tuple(moved))

    def __rshift__(self, other):
        beside = self + other
        across = [(low, high) for low in range(self.size) for high in range(self.size, beside.size)]
        return Order(beside.size, beside.steps_told() + tuple(across))

    def __mul__(self, other):
        size = check_number(self.size * other.size, "size", 1, MOST_PLACES)
        many = other.size
        steps = [
            (low, high)
            for low in range(size)
            for high in range(size)
            if low != high
            and self.is_under(low // many, high // many)
            and other.is_under(low % many, high % many)
        ]
        return Order(size, steps)

    def __and__(self, other):
        if other.size != self.size:
            raise OtherSize(other.size)
        return Order(self.size, [step for step in self._steps if step in other.steps_told()])

    def __invert__(self):
        return Order(self.size, [(high, low) for low, high in self._steps])
