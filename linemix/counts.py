"""Counts: numbers at pairs, as tolls or weights."""

from linemix.errors import BadCounts, BadPair, Unfit
from linemix.numbers import check_number, is_at_least
from linemix.pairs import all_pairs, is_pair


def _is_told(value, many):
    """Tell whether the value is a list or tuple of so many integers at least 0."""
    if not isinstance(value, (list, tuple)) or len(value) != many:
        return False
    return all([is_at_least(part, 0) for part in value])


def _numbers_told(rows):
    """Return the dict from pairs to numbers, also 0, that a list or tuple of entries (x, y, number) tells."""
    if not isinstance(rows, (list, tuple)):
        raise BadCounts(-1)
    numbers = {}
    for at, entry in enumerate(rows):
        if not _is_told(entry, 3) or (entry[0], entry[1]) in numbers:
            raise BadCounts(at)
        x, y, number = entry
        numbers[x, y] = number
    return numbers


def _pairs_told(lot):
    """Return the different tuples of two integers that a list or tuple tells."""
    if not isinstance(lot, (list, tuple)):
        raise BadPair(-2)
    pairs = {}
    for at, entry in enumerate(lot):
        if not _is_told(entry, 2) or tuple(entry) in pairs:
            raise BadPair(at)
        pairs[tuple(entry)] = True
    return list(pairs)


class Counts:
    """Integers at least 0 at pairs of such integers; they never change.

    The attribute rows is the tuple of the tuples (x, y, number) with a number above 0, ascending.
    """

    def __init__(self, rows=()):
        numbers = _numbers_told(rows)
        self._numbers = {pair: numbers[pair] for pair in numbers if numbers[pair]}
        self.rows = tuple([(x, y, self._numbers[x, y]) for x, y in sorted(self._numbers)])

    @classmethod
    def ones(cls, order):
        """Return counts of 1 at all pairs of the order."""
        return cls([(x, y, 1) for x, y in all_pairs(order)])

    @classmethod
    def at(cls, lot, *, number=1):
        """Return counts of this number at each pair of the lot."""
        pairs = _pairs_told(lot)
        check_number(number, "number", 0, None)
        return cls([(x, y, number) for x, y in pairs])

    def __iter__(self):
        return iter(self.rows)

    def __len__(self):
        return len(self.rows)

    def __getitem__(self, at):
        x, y = at
        return self._numbers.get((x, y), 0)

    def __contains__(self, x):
        return self[x] > 0

    def __eq__(self, other):
        return isinstance(other, Counts) and self.rows == other.rows

    def __add__(self, other):
        both = [(x, y, number + other[x, y]) for x, y, number in self.rows]
        return Counts(both + [row for row in other.rows if not self[row[0], row[1]]])

    def __mul__(self, other):
        factor = check_number(other, "factor", 0, None)
        return Counts([(x, y, number * factor) for x, y, number in self.rows])

    def with_count(self, x, y, number):
        """Return counts with this number at (x, y) and otherwise the same ones."""
        if not is_at_least(x, 0) or not is_at_least(y, 0):
            raise BadPair(-1)
        check_number(number, "number", 0, None)
        kept = [row for row in self.rows if (row[0], row[1]) != (x, y)]
        return Counts(kept + [(x, y, number)])

    def product_sum(self, other):
        """Return the sum of the products of both numbers over all pairs."""
        return sum([number * other[x, y] for x, y, number in self.rows])

    def total_count(self):
        """Return the sum of all numbers."""
        return sum([number for _, _, number in self.rows])

    def greatest_count(self):
        """Return the greatest number, 0 if none is told."""
        return max([number for _, _, number in self.rows], default=0)

    def covers_all(self, other):
        """Tell whether each number is at least the other's."""
        return all([self[x, y] >= number for x, y, number in other.rows])


def check_fit(order, counts):
    """Raise Unfit for the first pair, ascending, with a count above 0 that is no pair of the order."""
    for x, y, _ in counts.rows:
        if not is_pair(order, (x, y)):
            raise Unfit(x, y)


def kept_on(order, counts):
    """Return the counts without those at what is no pair of the order."""
    return Counts([(x, y, number) for x, y, number in counts.rows if is_pair(order, (x, y))])
