"""Separate steps, and cuts: sets of places over all others, which cost as much as lines only without such steps."""

from linemix.costs import check_tolled
from linemix.counts import check_fit
from linemix.masks import places_in
from linemix.numbers import check_number, lowest
from linemix.pairs import all_pairs, reaches
from linemix.places import places_of
from linemix.tables import paper_by
from linemix.turning import line_turning

MOST_SHARED = 60
# Of so many parts of the list of all cuts the best cut each is tried at once: so fewer looks at all cuts are needed.
PARTS = 16


def _are_separate(order, step, other):
    """Tell whether neither step has its lower place below the upper place of the other one."""
    return not reaches(order, step[0], other[1]) and not reaches(order, other[0], step[1])


def separate_steps(order):
    """Return the least tuple (u, v, s, t) of two separate steps (u, v) and (s, t), None if there are no two."""
    for step in order.steps_told():
        for other in order.steps_told():
            if _are_separate(order, step, other):
                return step + other
    return None


def cut_lot(order, chosen):
    """Return the lot of the pairs (x, y) with x in the set and y not in it."""
    places = places_of(chosen, order.size)
    return tuple([(x, y) for x, y in all_pairs(order) if x in places and y not in places])


def cut_line(order, chosen):
    """Return a line that turns all pairs that the cut turns, None if there is none."""
    return line_turning(order, cut_lot(order, chosen))


class CutTable:
    """All cuts at wants, looked at as linemix.ladders does for rows; a want is a pair (x, y) of places."""

    def __init__(self, wants):
        self.places = sorted({place for pair in wants for place in pair})
        self._wants = [(self.places.index(x), self.places.index(y)) for x, y in wants]

    def sums_at(self, weights):
        """Return the list of the weights that the cuts turn.

        Bit k of the number of a cut tells whether place k of those that the wants have is in it.
        """
        size = len(self.places)
        outs = [0] * size
        between = [[0] * size for _ in range(size)]
        for (x, y), weight in zip(self._wants, weights):
            outs[x] = outs[x] + weight
            between[x][y] = between[x][y] + weight
            between[y][x] = between[y][x] + weight
        sums = [0]
        for place in range(size):
            # The place turns its pairs but those with a place of the cut, whose pairs with the place are lost, too.
            lost = [0]
            for other in range(place):
                lost = lost + [number + between[place][other] for number in lost]
            sums = sums + [number + outs[place] - less for number, less in zip(sums, lost)]
        return sums

    def _lot_of(self, mask):
        """Return the numbers of the wants that a cut turns."""
        return tuple([at for at, (x, y) in enumerate(self._wants) if mask >> x & 1 and not mask >> y & 1])

    def rich_lots(self, weights):
        """Return a list of tuples (weight, lot): lots that cuts turn, a heaviest one among them."""
        sums = self.sums_at(weights)
        wide = max(1, len(sums) // PARTS)
        found = []
        for begin in range(0, len(sums), wide):
            part = sums[begin:begin + wide]
            best = max(part)
            found.append((best, self._lot_of(begin + part.index(best))))
        return found


def cut_cost(order, tolls):
    """Return the least total of weights on cuts that pay the tolls."""
    return cut_paper(order, tolls).value_at(tolls)


def cut_paper(order, tolls):
    """Return a paper by which no cut turns weights of more than 1, and whose value at the tolls is the cut cost."""
    check_fit(order, tolls)
    check_tolled(tolls)
    return paper_by(CutTable([(x, y) for x, y, _ in tolls.rows]), tolls)


def cut_worth(order, weights):
    """Return the greatest sum of weights that one cut turns, and the first set, by size, then ascending, that does."""
    check_fit(order, weights)
    table = CutTable([(x, y) for x, y, _ in weights.rows])
    sums = table.sums_at([weight for _, _, weight in weights.rows])
    greatest = max(sums)
    masks = [mask for mask, number in enumerate(sums) if number == greatest]
    sets = [tuple([table.places[at] for at in places_in(mask)]) for mask in masks]
    return greatest, min([(len(chosen), chosen) for chosen in sets])[1]


def cut_share(size):
    """Return how many pairs there are of each one that a cut of so many places turns, if it is made in the middle."""
    check_number(size, "size", 2, MOST_SHARED)
    half = size // 2
    return lowest(size * (size - 1), half * (size - half))
