"""Crowns: their tight pairs, the lines that turn most of them, and what they cost."""

from linemix.counts import Counts
from linemix.masks import mask_of
from linemix.mixes import Mix
from linemix.numbers import check_number, lowest, rates_told
from linemix.shapes import MOST_COUPLES, crown

MOST_REACH = 20


def _check_crown(many, reach):
    """Raise BadNumber unless there is a crown of that kind."""
    check_number(many, "many", 3, MOST_COUPLES)
    check_number(reach, "reach", 0, many - 3)


def _offset_pairs(many, offset):
    """Return the list of the pairs of one offset."""
    return [(i, many + (i + offset) % many) for i in range(many)]


def crown_pairs(many, *, reach=0):
    """Return the lot of the pairs of all offsets."""
    _check_crown(many, reach)
    return tuple(sorted([pair for offset in range(reach + 1) for pair in _offset_pairs(many, offset)]))


def crown_most(reach):
    """Return the most of the crown pairs that one line turns."""
    check_number(reach, "reach", 0, MOST_REACH)
    return (reach + 1) * (reach + 2) // 2


def crown_cost(many, *, reach=0):
    """Return the full cost of the crown."""
    _check_crown(many, reach)
    return lowest(2 * many, reach + 2)


def _stretch(many, start, turns):
    """Return the lower places of the stretch in the order in which they are taken."""
    first = start
    last = start
    taken = [start]
    for turn in turns:
        if turn:
            first = (first - 1) % many
        else:
            last = (last + 1) % many
        taken.append(first if turn else last)
    return taken


def _line_down(many, reach, start, turns):
    """Return the crown line; nothing is checked."""
    taken = _stretch(many, start, turns)
    lows = [place for place in range(many) if place not in taken] + taken[::-1]
    order = crown(many, reach=reach)
    line = ()
    for low in lows:
        line = line + (low,)
        # Each upper place comes as early as can be: so the lower places behind it are over it.
        ready = [place for place in range(many, 2 * many) if order.belows[place] & ~mask_of(line) == 0]
        line = line + tuple([place for place in ready if place not in line])
    return line


def crown_line(many, *, reach=0, start=0, turns=()):
    """Return a line of the crown that turns as many of the crown pairs as one line can.

    Its highest lower place is start; the next ones down follow from the turns.
    """
    _check_crown(many, reach)
    check_number(start, "start", 0, many - 1)
    return _line_down(many, reach, start, rates_told(turns, reach, 0, 1))


def crown_mix(many, *, reach=0):
    """Return a mix of lines of the crown with its full cost as total, in which each crown pair has the share 1."""
    _check_crown(many, reach)
    if reach == 0:
        return Mix(1, [(_line_down(many, 0, start, ()), 1) for start in range(many)])
    return Mix(reach + 2, [(_line_down(many, reach, start, [turn] * reach), 1)
                           for start in range(many) for turn in (0, 1)])


def crown_level_counts(many, tolls, *, reach=0):
    """Return counts with one number, told in tolls, at all pairs of each offset."""
    _check_crown(many, reach)
    told = rates_told(tolls, reach + 1, 0)
    return Counts([(x, y, toll) for offset, toll in enumerate(told) for x, y in _offset_pairs(many, offset)])
