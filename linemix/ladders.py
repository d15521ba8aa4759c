"""For the package itself: rows of points that serve wants of the greatest weight."""

from linemix.lines import free_places
from linemix.masks import full_mask
from linemix.wants import narrowed, row_serving


class Ladder:
    """All beginnings of rows, taken as sets of points, each one told by those with one point less.

    needs and wants are told as in linemix.wants. A rung holds the ways to one beginning as tuples of two: the number of
    one with a point less, and the number of the lot of wants that the new last point serves, whatever comes behind it.
    """

    def __init__(self, needs, wants):
        self._needs = needs
        self._asked = [[] for _ in needs]
        for at, (point, mask) in enumerate(wants):
            self._asked[point].append((at, mask))
        self._lot_numbers = {(): 0}
        self._rungs = [[]]
        self._climb()
        self._lots = list(self._lot_numbers)

    def _climb(self):
        """Find all beginnings, those with few points first."""
        reached = {0: 0}
        level = [0]
        full = full_mask(len(self._needs))
        while level:
            wider = []
            # The next level grows in this loop and is called level behind it: so a list of its own is walked.
            for mask in list(level):
                for point in free_places(self._needs, full ^ mask):
                    grown = mask | (1 << point)
                    if grown not in reached:
                        reached[grown] = len(reached)
                        self._rungs.append([])
                        wider.append(grown)
                    self._rungs[reached[grown]].append((reached[mask], self._lot_number(mask, point)))
            level = wider

    def _lot_number(self, mask, point):
        """Return the number of the lot of the wants that the point serves behind the points of the mask."""
        lot = tuple([at for at, ahead in self._asked[point] if ahead & mask == ahead])
        return self._lot_numbers.setdefault(lot, len(self._lot_numbers))

    def rich_lots(self, weights):
        """Return a list of tuples (weight, lot), one for each point that can stand last in a row.

        The lot is as heavy as a lot can be that a row with this last point serves. weights holds a number at least 0
        for each want.
        """
        gains = [sum([weights[at] for at in lot]) for lot in self._lots]
        best = [0]
        for ways in self._rungs[1:]:
            best.append(max([best[low] + gains[lot] for low, lot in ways]))
        last = self._rungs[-1] if len(best) > 1 else [(0, 0)]
        return [(best[low] + gains[lot], self._way_to(best, gains, low) + self._lots[lot]) for low, lot in last]

    def _way_to(self, best, gains, number):
        """Return the lot that a heaviest beginning with this number serves."""
        served = ()
        reached = number
        while reached:
            ways = [(low, at) for low, at in self._rungs[reached] if best[low] + gains[at] == best[reached]]
            reached, lot = ways[0]
            served = served + self._lots[lot]
        return served


def richest_row(needs, wants, weights):
    """Return a tuple (number, row): the most weight that a row serves, and a row of all points that serves so much."""
    few_needs, few_wants = narrowed(needs, wants)
    number, lot = max(Ladder(few_needs, few_wants).rich_lots(weights))
    return number, row_serving(needs, [wants[at] for at in lot])
