"""From line to line by exchanges of neighbours."""

from linemix.errors import OtherSize
from linemix.lines import line_of, ranks_of, row_told


def unlike_couples(one, other):
    """Return the number of couples in unlike order in two rows of one size."""
    first = row_told(one)
    second = row_told(other)
    if len(first) != len(second):
        raise OtherSize(len(second))
    ranks = ranks_of(second)
    goals = [ranks[place] for place in first]
    return sum([len([goal for goal in goals[:at] if goal > mark]) for at, mark in enumerate(goals)])


def _once_swapped(line, ranks):
    """Return the line after one exchange of neighbours that stand in unlike order in the line with these ranks."""
    at = 0
    while ranks[line[at]] < ranks[line[at + 1]]:
        at = at + 1
    return line[:at] + (line[at + 1], line[at]) + line[at + 2:]


def swap_path(order, one, other):
    """Return a list of lines from one to other, each made from the one ahead of it by exchanging two neighbours."""
    line = line_of(order, one)
    goal = line_of(order, other)
    ranks = ranks_of(goal)
    path = [line]
    while line != goal:
        line = _once_swapped(line, ranks)
        path.append(line)
    return path
