"""Mixes: lines with weights."""

from math import lcm

from linemix.errors import BadMix, BadPlace, OtherSize
from linemix.lines import is_line, ranks_of
from linemix.numbers import check_number, is_at_least, is_int, lowest
from linemix.places import place_of


def _is_row(value):
    """Tell whether the value is a list or tuple of the integers 0 .. m - 1, each once, m at least 1."""
    if not isinstance(value, (list, tuple)) or len(value) == 0:
        return False
    return all([is_int(place) for place in value]) and sorted(value) == list(range(len(value)))


def _is_entry(value):
    """Tell whether the value is a list or tuple of a row and an integer at least 1."""
    if not isinstance(value, (list, tuple)) or len(value) != 2:
        return False
    line, number = value
    return _is_row(line) and is_at_least(number, 1)


def _numbers_told(rows):
    """Return the dict from lines to numbers that a list or tuple of entries (line, number) tells."""
    if not isinstance(rows, (list, tuple)):
        raise BadMix(-1)
    numbers = {}
    for at, entry in enumerate(rows):
        if not _is_entry(entry) or len(entry[0]) != len(rows[0][0]):
            raise BadMix(at)
        line = tuple(entry[0])
        numbers[line] = numbers.get(line, 0) + entry[1]
    return numbers


class Mix:
    """Lines with numbers at least 1, over a bottom at least 1; it never changes.

    Besides the attribute bottom, the attribute rows is the tuple of the tuples (line, number), ascending, and size is
    the number of places of the lines, 0 without lines.
    """

    def __init__(self, bottom, rows):
        self.bottom = check_number(bottom, "bottom", 1, None)
        self._numbers = _numbers_told(rows)
        self.rows = tuple([(line, self._numbers[line]) for line in sorted(self._numbers)])
        self.size = len(self.rows[0][0]) if self.rows else 0
        self._ranks = [(ranks_of(line), number) for line, number in self.rows]

    @property
    def total(self):
        """The sum of the weights of the lines."""
        return lowest(sum([number for _, number in self.rows]), self.bottom)

    def __iter__(self):
        return iter(self.rows)

    def __len__(self):
        return len(self.rows)

    def _number_over(self, x, y):
        """Return the sum of the numbers of the lines that have x over y."""
        return sum([number for ranks, number in self._ranks if ranks[x] > ranks[y]])

    def share(self, x, y):
        """Return the weight of the lines that have x over y."""
        if not self.rows:
            return 0, 1
        place_of(x, self.size, "x")
        place_of(y, self.size, "y")
        if x == y:
            raise BadPlace("y")
        return lowest(self._number_over(x, y), self.bottom)

    def _pays_toll(self, x, y, toll):
        """Tell whether the share of (x, y) is at least the toll."""
        if x >= self.size or y >= self.size:
            return False
        return self._number_over(x, y) >= toll * self.bottom

    def pays(self, counts):
        """Tell whether the share of each pair is at least its count."""
        return all([self._pays_toll(x, y, toll) for x, y, toll in counts.rows])

    def holds_in(self, order):
        """Tell whether all lines are lines of the order."""
        if not self.rows:
            return True
        return self.size == order.size and all([is_line(order, line) for line, _ in self.rows])

    def number_of(self, line):
        """Return the number at this line, 0 if it is not in the mix."""
        return self._numbers.get(tuple(line), 0)

    def _rows_times(self, factor):
        """Return the rows with each number multiplied."""
        return [(line, number * factor) for line, number in self.rows]

    def __add__(self, other):
        if self.rows and other.rows and self.size != other.size:
            raise OtherSize(other.size)
        bottom = lcm(self.bottom, other.bottom)
        return Mix(bottom, self._rows_times(bottom // self.bottom) + other._rows_times(bottom // other.bottom))

    def __eq__(self, other):
        return isinstance(other, Mix) and self._rows_times(other.bottom) == other._rows_times(self.bottom)


def check_lines(order, mix):
    """Raise BadMix for the first row of the mix whose line is no line of the order."""
    for at, (line, _) in enumerate(mix.rows):
        if len(line) != order.size or not is_line(order, line):
            raise BadMix(at)
