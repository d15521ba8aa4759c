"""Papers: weights at pairs by which lines are looked at."""

from linemix.numbers import check_number, lowest
from linemix.worths import worth


class Paper:
    """Counts over a bottom at least 1: each pair weighs its count divided by the bottom."""

    def __init__(self, bottom, counts):
        self.bottom = check_number(bottom, "bottom", 1, None)
        self.counts = counts

    def __iter__(self):
        return iter(self.counts.rows)

    def _rows_times(self, factor):
        """Return the tuples of the counts with each number multiplied."""
        return [(x, y, number * factor) for x, y, number in self.counts.rows]

    def __eq__(self, other):
        return isinstance(other, Paper) and self._rows_times(other.bottom) == other._rows_times(self.bottom)

    def value_at(self, tolls):
        """Return the value of the paper at the tolls."""
        return lowest(self.counts.product_sum(tolls), self.bottom)

    def holds_in_order(self, order):
        """Tell whether no line of the order turns counts of more than the bottom."""
        return worth(order, self.counts) <= self.bottom
