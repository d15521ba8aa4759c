"""For the package itself: as few lots as can be that have each want as often as it asks."""

from linemix.simplex import least_mix


class Cover:
    """A search for lots among those that a ladder's rows serve.

    greatest holds all lots that lie in no greater one. papers holds what was found to show that some tolls need many
    lots, failed the tolls for which so many lots were not enough.
    """

    def __init__(self, ladder, greatest):
        self._ladder = ladder
        self._greatest = greatest
        self._papers = []
        self._failed = {}

    def fewest(self, tolls):
        """Return a list of lots, as short as can be, that has each want as often as its toll says."""
        many = 0
        found = self._within(tuple(tolls), many)
        while found is None:
            many = many + 1
            found = self._within(tuple(tolls), many)
        return found

    def _within(self, tolls, many):
        """Return a list of at most so many lots that has each want as often as its toll says, None if there is none."""
        if max(tolls) == 0:
            return []
        if self._is_too_little(tolls, many):
            return None
        bottom, lots, weights = least_mix(self._ladder, tolls)
        if _worth_of(weights, tolls) > many * bottom:
            self._papers.append((bottom, weights))
            return None
        if all([number % bottom == 0 for _, number in lots]):
            return [lot for lot, number in lots for _ in range(number // bottom)]
        found = self._branched(tolls, many)
        if found is None:
            self._failed[tolls, many] = True
        return found

    def _is_too_little(self, tolls, many):
        """Tell whether so many lots are known to be too few."""
        if max(tolls) > many or (tolls, many) in self._failed:
            return True
        return any([_worth_of(weights, tolls) > many * bottom for bottom, weights in self._papers])

    def _branched(self, tolls, many):
        """Return what _within does, by a look at each lot that has the want with the greatest toll."""
        want = tolls.index(max(tolls))
        for lot in self._greatest:
            if want in lot:
                rest = tuple([toll - 1 if at in lot and toll else toll for at, toll in enumerate(tolls)])
                found = self._within(rest, many - 1)
                if found is not None:
                    return [lot] + found
        return None


def _worth_of(weights, tolls):
    """Return the sum of the products of weights and tolls."""
    return sum([weight * toll for weight, toll in zip(weights, tolls)])
