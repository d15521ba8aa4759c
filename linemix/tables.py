"""For the package itself: lots of tolled pairs that are told by a table in place of rows, and what they cost."""

from linemix.counts import Counts
from linemix.papers import Paper
from linemix.simplex import least_mix


class LotTable:
    """Lots told one by one, looked at as linemix.ladders does for all lots that rows serve."""

    def __init__(self, lots):
        self._lots = lots

    def rich_lots(self, weights):
        """Return a list of tuples (weight, lot), one for each lot."""
        return [(sum([weights[at] for at in lot]), lot) for lot in self._lots]


def paper_by(table, tolls):
    """Return a paper with weights at tolled pairs alone by which no lot of the table weighs more than 1.

    Its value at the tolls is the least total of weights on such lots that pay the tolls. The table tells a tolled pair
    by its number, and lets each pair stand in a lot.
    """
    if len(tolls) == 0:
        return Paper(1, Counts())
    bottom, _, weights = least_mix(table, [toll for _, _, toll in tolls.rows])
    return Paper(bottom, Counts([(x, y, weight) for (x, y, _), weight in zip(tolls.rows, weights)]))
