"""For the package itself: the cheapest weights on lots that give each want its toll, exactly."""


class Tableau:
    """As many lots as wants, with the numbers by which they give each want just its toll; all over one bottom.

    Row k of the grid holds the number of lot k, and behind it how this number changes with each toll. The row worths
    holds the total, and behind it the weight of each want. The lot None stands for what one want gets too much. At the
    beginning there is a lot of each want alone, of this price.
    """

    def __init__(self, tolls, price):
        wants = range(len(tolls))
        self.bottom = 1
        self.basis = [(at,) for at in wants]
        self.grid = [[toll] + [1 if at == other else 0 for other in wants] for at, toll in enumerate(tolls)]
        self.worths = [sum(tolls) * price] + [price] * len(tolls)

    def weights(self):
        """Return the weights of the wants."""
        return self.worths[1:]

    def gain_of(self, lot, price):
        """Return how much more the wants of a lot weigh than its price times the bottom."""
        return sum([self.worths[at + 1] for at in lot]) - price * self.bottom

    def enter_lot(self, lot, price):
        """Exchange some lot for this one, whose gain is above 0."""
        column = [sum([row[at + 1] for at in lot]) for row in self.grid]
        self._exchange(lot, column, self.gain_of(lot, price))

    def give_back(self, want):
        """Exchange some lot for what this want, whose weight is below 0, gets too much."""
        self._exchange(None, [-row[want + 1] for row in self.grid], -self.worths[want + 1])

    def _exchange(self, lot, column, gain):
        at = self._leaving(column)
        kept = self.grid[at]
        pivot = column[at]
        bottom = self.bottom
        grid = [_cleared(row, kept, pivot, factor, bottom) for row, factor in zip(self.grid, column)]
        grid[at] = kept
        self.worths = _cleared(self.worths, kept, pivot, gain, bottom)
        self.grid = grid
        self.basis[at] = lot
        self.bottom = pivot

    def _leaving(self, column):
        """Return the number of the lot that falls to 0 first as the new one grows."""
        best = None
        for at, (row, factor) in enumerate(zip(self.grid, column)):
            if factor > 0 and (best is None or _is_less(row, factor, self.grid[best], column[best])):
                best = at
        return best


def _cleared(row, kept, pivot, factor, bottom):
    """Return the row less a multiple of the row that is kept, over the new bottom; each division leaves nothing."""
    if factor == 0:
        return [value * pivot // bottom for value in row]
    return [(value * pivot - factor * part) // bottom for value, part in zip(row, kept)]


def _is_less(row, factor, other, its_factor):
    """Tell whether the row over its factor is less than the other one, at the first place where they differ.

    Asking for all places, not for the first one alone, keeps exchanges from going round in circles.
    """
    for value, its_value in zip(row, other):
        if value * its_factor != its_value * factor:
            return value * its_factor < its_value * factor
    return False


def least_mix(ladder, tolls):
    """Return a tuple (bottom, list of tuples (lot, number), list of weights of the wants).

    The lots are served by rows of the ladder, the numbers over the bottom are the cheapest ones that give each want its
    toll, and no row serves wants that weigh more than the bottom together.
    """
    return priced_mix(ladder, tolls, 1, {})


def priced_mix(ladder, tolls, price, prices):
    """Return what least_mix does for lots of unlike prices: prices tells some of them, and all other lots cost price.

    No lot costs more than that. So if prices tells less for a lot of one want, its price at the beginning is not met in
    the end.
    """
    table = Tableau(tolls, price)
    known = []
    while True:
        weights = table.weights()
        if min(weights) < 0:
            table.give_back(weights.index(min(weights)))
            continue
        gains = [table.gain_of(lot, prices.get(lot, price)) for lot in known]
        if max(gains, default=0) > 0:
            best = known[gains.index(max(gains))]
            table.enter_lot(best, prices.get(best, price))
            continue
        found = [lot for weight, lot in ladder.rich_lots(weights) if weight > prices.get(lot, price) * table.bottom]
        if not found:
            numbers = [row[0] for row in table.grid]
            return table.bottom, [(lot, number) for lot, number in zip(table.basis, numbers) if lot and number], weights
        known = known + found
