"""Counts of which only a low and a high end are known, and what holds whatever they are in between."""

from linemix.costs import best_paper, check_tolled, cost
from linemix.counts import Counts, check_fit
from linemix.errors import BadFraction, BadNotes, BadPair, TooMany
from linemix.lines import line_of, lines_of, ranks_of
from linemix.numbers import check_number, is_at_least, is_at_most, is_fraction, lowest
from linemix.worths import richest, worth

MOST_UNSEEN = 6


class Notes:
    """A low and a high count for each pair; they never change."""

    def __init__(self, lows, highs):
        if not highs.covers_all(lows):
            raise BadNotes(0)
        self.lows = lows
        self.highs = highs

    def __eq__(self, other):
        return isinstance(other, Notes) and self.lows == other.lows and self.highs == other.highs

    def agrees(self, counts):
        """Tell whether each count is at least the low and at most the high one."""
        return counts.covers_all(self.lows) and self.highs.covers_all(counts)

    def is_seen(self, x, y):
        """Tell whether the low and the high count of (x, y) are equal."""
        return self.lows[x, y] == self.highs[x, y]

    def unseen_pairs(self):
        """Return the pairs whose low count is less than the high one, ascending."""
        return tuple([(x, y) for x, y, number in self.highs.rows if self.lows[x, y] < number])

    def with_seen(self, x, y, number):
        """Return notes in which the low and the high count of (x, y) are this number."""
        if not is_at_least(x, 0) or not is_at_least(y, 0):
            raise BadPair(-1)
        check_number(number, "number", self.lows[x, y], self.highs[x, y])
        return Notes(self.lows.with_count(x, y, number), self.highs.with_count(x, y, number))

    def corner_counts(self, chosen):
        """Return the high counts at the chosen pairs and the low ones at all others."""
        counts = self.lows
        for x, y, _ in Counts.at(chosen).rows:
            counts = counts.with_count(x, y, self.highs[x, y])
        return counts


def _check_notes(order, notes):
    """Raise Unfit unless the low and the high counts fit the order."""
    check_fit(order, notes.lows)
    check_fit(order, notes.highs)


def cost_stretch(order, notes):
    """Return the cost of the low counts and that of the high ones."""
    _check_notes(order, notes)
    return cost(order, notes.lows), cost(order, notes.highs)


def _part_way(notes, part):
    """Return the counts that lie so far on the way from low to high, times the bottom of the fraction part."""
    top, bottom = part
    return notes.lows * (bottom - top) + notes.highs * top


def tolls_costing(order, notes, fraction):
    """Return counts and a factor: agreeing tolls times the factor, which cost the factor times the fraction."""
    _check_notes(order, notes)
    if not is_fraction(fraction):
        raise BadFraction("fraction")
    least, most = cost_stretch(order, notes)
    if not is_at_most(least, fraction) or not is_at_most(fraction, most):
        raise BadFraction("fraction")
    top, bottom = fraction
    part = (1, 1)
    while True:
        counts = _part_way(notes, part)
        paper = best_paper(order, counts)
        if is_at_most(paper.value_at(counts), (top * part[1], bottom)):
            return counts, part[1]
        # By this paper all tolls from here down to where its value is the one asked cost too much; so do perhaps more.
        low = paper.counts.product_sum(notes.lows)
        high = paper.counts.product_sum(notes.highs)
        part = lowest(top * paper.bottom - low * bottom, (high - low) * bottom)


def _doubtful_pairs(paper, notes):
    """Return the unseen pairs at which a corner must be looked at both ways, and those whose high count is enough.

    At a pair of weight 0 only a greater toll can make the cost more than the value, at one of weight 1 or more only a
    lesser one.
    """
    unseen = notes.unseen_pairs()
    both = [pair for pair in unseen if 0 < paper.counts[pair] < paper.bottom]
    return both, [pair for pair in unseen if paper.counts[pair] == 0]


def best_everywhere(order, paper, notes):
    """Tell whether the paper is best for all counts that agree with the notes."""
    check_fit(order, paper.counts)
    _check_notes(order, notes)
    if len(notes.unseen_pairs()) > MOST_UNSEEN:
        raise TooMany(MOST_UNSEEN)
    check_tolled(notes.highs)
    if not paper.holds_in_order(order):
        return False
    both, highs = _doubtful_pairs(paper, notes)
    for mask in range(1 << len(both)):
        counts = notes.corner_counts(highs + [pair for at, pair in enumerate(both) if mask >> at & 1])
        if paper.value_at(counts) != cost(order, counts):
            return False
    return True


def _earned(line, weights):
    """Return the sum of the weights that the line turns."""
    ranks = ranks_of(line)
    return sum([number for x, y, number in weights.rows if ranks[x] > ranks[y]])


def _regret_of(order, line, notes):
    """Return what line_regret does; nothing is checked."""
    ranks = ranks_of(line)
    # At its worst for the line, what it turns weighs as little as can be, and all else as much as can be.
    weights = Counts([(x, y, notes.lows[x, y] if ranks[x] > ranks[y] else high) for x, y, high in notes.highs.rows])
    best = richest(order, weights)
    return _earned(best, weights) - _earned(line, weights), best


def line_regret(order, line, notes):
    """Return the most that the worth is above what the line earns, for agreeing weights, and a line that shows it."""
    told = line_of(order, line)
    _check_notes(order, notes)
    return _regret_of(order, told, notes)


def richest_everywhere(order, notes):
    """Return the first line, ascending, that has the worth at all agreeing weights, None if there is none."""
    _check_notes(order, notes)
    lines = lines_of(order)
    least = worth(order, notes.lows)
    most = worth(order, notes.highs)
    for line in lines:
        # What does not have the worth at the ends need not be looked at closely.
        if _earned(line, notes.lows) == least and _earned(line, notes.highs) == most:
            if _regret_of(order, line, notes)[0] == 0:
                return line
    return None
