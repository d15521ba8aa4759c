"""A desk: an order with tolls and weights that deeds change and take back."""

from linemix.commons import flipped
from linemix.costs import best_mix, best_paper, cost, full_cost
from linemix.counts import Counts, check_fit, kept_on
from linemix.errors import BadPair, BadParts, BadPlace, Crossing, NothingBack, TooMany
from linemix.evens import even_mix
from linemix.filling import filled_in, place_in
from linemix.leading import tight_pairs
from linemix.numbers import check_number
from linemix.odds import odd_bound
from linemix.onemore import counts_at
from linemix.orders import MOST_PLACES, Order
from linemix.pairs import is_pair, reaches
from linemix.places import place_of, places_of
from linemix.products import with_ends
from linemix.putting import cross_counts, put_in
from linemix.ties import check_open, tied, untied
from linemix.wholes import whole_cost
from linemix.widths import best_bound
from linemix.worths import worth

# Each function below makes what a desk holds behind a deed, as a tuple (order, tolls, weights), out of what it holds
# ahead of it, a tuple that begins in the same way.


def _kept(order, held):
    """Return the order with the tolls and weights that are kept on it."""
    return order, kept_on(order, held[1]), kept_on(order, held[2])


def _with_tie(held, x, y):
    """Return what is held with x below y."""
    check_open(held[0], x, y, ("x", "y"))
    return _kept(tied(held[0], (x, y)), held)


def _without_step(held, x, y):
    """Return what is held without the next step (x, y)."""
    place_of(x, held[0].size, "x")
    place_of(y, held[0].size, "y")
    return untied(held[0], x, y), held[1], held[2]


def _with_place(held, below, above):
    """Return what is held with a new place above all that is under a place of below, and likewise below."""
    order = held[0]
    lows = places_of(below, order.size)
    highs = places_of(above, order.size)
    for x in lows:
        for y in highs:
            if x == y or not reaches(order, x, y):
                raise Crossing(x, y)
    new = order.size
    if new == MOST_PLACES:
        raise TooMany(MOST_PLACES)
    steps = [(x, new) for x in lows] + [(new, y) for y in highs]
    return Order(new + 1, order.steps_told() + tuple(steps)), held[1], held[2]


def _without_place(held, x):
    """Return what is held without the place x."""
    order = held[0]
    place_of(x, order.size, "x")
    rest = [place for place in range(order.size) if place != x]
    if not rest:
        raise BadPlace("x")
    return order.on(rest), counts_at(held[1], rest), counts_at(held[2], rest)


def _counted(order, counts, x, y, number):
    """Return the counts with this number at the pair (x, y)."""
    if not is_pair(order, (x, y)):
        raise BadPair(-1)
    return counts.with_count(x, y, check_number(number, "number", 0, None))


def _with_toll(held, x, y, number):
    """Return what is held with this toll at (x, y)."""
    return held[0], _counted(held[0], held[1], x, y, number), held[2]


def _with_weight(held, x, y, number):
    """Return what is held with this weight at (x, y)."""
    return held[0], held[1], _counted(held[0], held[2], x, y, number)


def _with_part(held, x, part):
    """Return what is held with an order put in for x."""
    order = held[0]
    place_of(x, order.size, "x")
    parts = [part if place == x else Order(1) for place in range(order.size)]
    return put_in(order, parts), cross_counts(order, parts, held[1]), cross_counts(order, parts, held[2])


def _moved_to(counts, numbers):
    """Return the counts of (x, y) at the places with these numbers."""
    return Counts([(numbers[x], numbers[y], number) for x, y, number in counts.rows])


def _with_ends(held):
    """Return what is held with a new least place and a new greatest one."""
    numbers = list(range(1, held[0].size + 1))
    return with_ends(held[0]), _moved_to(held[1], numbers), _moved_to(held[2], numbers)


def _turned(held):
    """Return what is held, upside down."""
    return ~held[0], flipped(held[1]), flipped(held[2])


def _filled(held):
    """Return what is held, filled in."""
    made = filled_in(held[0])
    numbers = [place_in(held[0], place) for place in range(held[0].size)]
    return made, _moved_to(held[1], numbers), _moved_to(held[2], numbers)


DEEDS = {
    "tie": _with_tie, "untie": _without_step, "put_place": _with_place, "drop_place": _without_place,
    "set_toll": _with_toll, "set_weight": _with_weight, "put_part": _with_part, "add_ends": _with_ends, "turn": _turned,
    "fill": _filled,
}
ASKED = {
    "tie": 2, "untie": 2, "put_place": 2, "drop_place": 1, "set_toll": 3, "set_weight": 3, "put_part": 2, "add_ends": 0,
    "turn": 0, "fill": 0, "back": 0,
}


def _check_deeds(deeds):
    """Raise BadParts for the first entry that is no list or tuple of the name of a deed and its arguments."""
    for at, deed in enumerate(deeds):
        if not isinstance(deed, (list, tuple)) or len(deed) == 0 or not isinstance(deed[0], str):
            raise BadParts(at)
        if deed[0] not in ASKED or len(deed) - 1 != ASKED[deed[0]]:
            raise BadParts(at)


class Desk:
    """An order with tolls and weights, and the deeds that were done.

    The attribute states is the tuple of all that the desk held and holds now: tuples (order, tolls, weights, cost).
    """

    def __init__(self, order, *, tolls=None, weights=None):
        asked = Counts() if tolls is None else tolls
        given = Counts() if weights is None else weights
        check_fit(order, asked)
        check_fit(order, given)
        self.states = ((order, asked, given, cost(order, asked)),)

    @property
    def now(self):
        """The order."""
        return self.states[-1][0]

    @property
    def tolls_now(self):
        """The tolls."""
        return self.states[-1][1]

    @property
    def weights_now(self):
        """The weights."""
        return self.states[-1][2]

    @property
    def deeds_done(self):
        """How many deeds can be undone."""
        return len(self.states) - 1

    def _do(self, name, told):
        """Do the deed of this name with what it is told, and return the new cost."""
        action = DEEDS[name]
        order, tolls, weights = action(self.states[-1], *told)
        value = cost(order, tolls)
        self.states = self.states + ((order, tolls, weights, value),)
        return value

    def tie(self, x, y):
        """Put x below y."""
        return self._do("tie", (x, y))

    def untie(self, x, y):
        """Take the next step (x, y) back."""
        return self._do("untie", (x, y))

    def put_place(self, below, above):
        """Put a new place above one set and below another one."""
        return self._do("put_place", (below, above))

    def drop_place(self, x):
        """Take the place x away."""
        return self._do("drop_place", (x,))

    def set_toll(self, x, y, number):
        """Set the toll of (x, y)."""
        return self._do("set_toll", (x, y, number))

    def set_weight(self, x, y, number):
        """Set the weight of (x, y)."""
        return self._do("set_weight", (x, y, number))

    def put_part(self, x, part):
        """Put an order in for the place x."""
        return self._do("put_part", (x, part))

    def add_ends(self):
        """Add a least and a greatest place."""
        return self._do("add_ends", ())

    def turn(self):
        """Turn the order upside down."""
        return self._do("turn", ())

    def fill(self):
        """Fill the order in."""
        return self._do("fill", ())

    def back(self):
        """Undo the last deed and return the cost."""
        if self.deeds_done == 0:
            raise NothingBack()
        self.states = self.states[:-1]
        return self.cost_now()

    def cost_now(self):
        """Return the cost of the tolls."""
        return self.states[-1][3]

    def worth_now(self):
        """Return the worth of the weights."""
        return worth(self.now, self.weights_now)

    def full_now(self):
        """Return the full cost of the order."""
        return full_cost(self.now)

    def mix_now(self):
        """Return a best mix for the tolls."""
        return best_mix(self.now, self.tolls_now)

    def paper_now(self):
        """Return a best paper for the tolls."""
        return best_paper(self.now, self.tolls_now)

    def whole_now(self):
        """Return the whole cost of the tolls."""
        return whole_cost(self.now, self.tolls_now)

    def tight_now(self):
        """Return the lot of the tight pairs."""
        return tight_pairs(self.now)

    def is_even_now(self):
        """Tell whether the order has an even mix."""
        return even_mix(self.now) is not None

    def bounds_now(self):
        """Return a bound of the full cost from above, and one from below."""
        return best_bound(self.now), (0, 1) if self.now.is_chain() else odd_bound(self.now)

    def trial(self, *deeds):
        """Return the list of the costs behind each of the deeds, and leave the desk as it was."""
        _check_deeds(deeds)
        costs = []
        kept = self.states
        try:
            for deed in deeds:
                costs.append(self.back() if deed[0] == "back" else self._do(deed[0], deed[1:]))
        finally:
            self.states = kept
        return costs


class Trial:
    """Remembers what a desk holds, and puts it back at the end."""

    def __init__(self, desk):
        self.desk = desk
        self._remembered = None

    def begin(self):
        """Remember what the desk holds."""
        self._remembered = self.desk.states

    def keep(self):
        """Forget what is remembered."""
        self._remembered = None

    def finish(self):
        """Put back what is remembered, if anything is, and forget it."""
        self._put_back()

    def _put_back(self):
        if self._remembered is None:
            return
        self.desk.states = self._remembered
        self._remembered = None

    def __enter__(self):
        self.begin()
        return self

    def __exit__(self, kind, value, trace):
        self._put_back()
