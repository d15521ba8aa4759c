"""Rows and lines of an order, and the lower sets that count them."""

from linemix.errors import BadLine, BadRow, BadSet, TooMany
from linemix.masks import full_mask, mask_of, places_in
from linemix.numbers import check_number
from linemix.places import is_place, places_of, wrong_entry

MOST_LINES = 1000
MOST_LOWER_SETS = 5000


def free_places(needs, left):
    """Return the places of the mask left that need none of its places, ascending."""
    return [place for place in places_in(left) if not needs[place] & left]


def least_row(needs, left):
    """Return the least row of the places of the mask left in which each one stands behind those that it needs.

    The answer is None if there is no such row.
    """
    row = ()
    while left:
        free = free_places(needs, left)
        if not free:
            return None
        row = row + (free[0],)
        left = left ^ (1 << free[0])
    return row


def least_line(order):
    """Return the first line, ascending."""
    return least_row(order.belows, full_mask(order.size))


def _line_after(order, line):
    """Return the next line behind this one, ascending, or None behind the last one."""
    left = 0
    for at in reversed(range(order.size)):
        left = left | (1 << line[at])
        greater = [place for place in free_places(order.belows, left) if place > line[at]]
        if greater:
            return line[:at] + (greater[0],) + least_row(order.belows, left ^ (1 << greater[0]))
    return None


def each_line(order):
    """Yield all lines, ascending, each made when it is asked for."""
    line = least_line(order)
    while line is not None:
        yield line
        line = _line_after(order, line)


def lines_of(order, *, first=0):
    """Return the list of all lines, ascending, or of the first so many."""
    check_number(first, "first", 0, None)
    # One line above the bound is enough to know that the list would be too long.
    asked = MOST_LINES + 1 if first == 0 else min(first, MOST_LINES + 1)
    found = []
    for line in each_line(order):
        found.append(line)
        if len(found) == asked:
            break
    if len(found) > MOST_LINES:
        raise TooMany(MOST_LINES)
    return found


def _one_place_more(order, ways):
    """Return the lower sets with one place more than those in ways, each with the number of its beginnings."""
    full = full_mask(order.size)
    wider = {}
    for mask, many in ways.items():
        for place in free_places(order.belows, full ^ mask):
            grown = mask | (1 << place)
            wider[grown] = wider.get(grown, 0) + many
    return wider


def lower_levels(order):
    """Return for each size a dict from the masks of the lower sets to the numbers of beginnings of lines in them."""
    levels = [{0: 1}]
    met = 1
    for _ in range(order.size):
        level = _one_place_more(order, levels[-1])
        levels.append(level)
        met = met + len(level)
        # Asked at each level, since all levels of a wide order would take long.
        if met > MOST_LOWER_SETS:
            raise TooMany(MOST_LOWER_SETS)
    return levels


def count_lines(order):
    """Return the number of lines."""
    return lower_levels(order)[-1][full_mask(order.size)]


def lower_sets(order):
    """Return the list of all lower sets, by size, those of one size ascending."""
    found = []
    for level in lower_levels(order):
        found.extend(sorted([places_in(mask) for mask in level]))
    return found


def checked_row(value, wrong, size):
    """Return the row of size entries that the value tells, given the number of its first wrong entry, if any."""
    if wrong is not None:
        raise BadRow(wrong)
    if len(value) < size:
        raise BadRow(len(value))
    return tuple(value)


def row_of(value, size):
    """Return the row of size places that a list or tuple tells."""
    wrong = wrong_entry(value, lambda entry: is_place(entry, size))
    return checked_row(value, wrong, size)


def row_told(value):
    """Return the row of as many places as the list or tuple has entries."""
    return row_of(value, len(value) if isinstance(value, (list, tuple)) else 0)


def ranks_of(row):
    """Return for each place where it stands in the row."""
    return {place: at for at, place in enumerate(row)}


def _early_entry(order, row):
    """Return the number of the first entry of a row with a place below it behind it, None if there is none."""
    for at, place in enumerate(row):
        if order.belows[place] & mask_of(row[at + 1:]):
            return at
    return None


def _checked_line(order, row):
    """Return the row if it keeps all steps between its places."""
    early = _early_entry(order, row)
    if early is not None:
        raise BadLine(early)
    return row


def line_of(order, value):
    """Return the line that a list or tuple tells."""
    return _checked_line(order, row_of(value, order.size))


def is_line(order, row):
    """Tell whether the row is a line."""
    return _early_entry(order, row_of(row, order.size)) is None


def cut_down(row, places):
    """Return the row cut down to a set of its places."""
    wrong = wrong_entry(places, lambda entry: entry in row)
    if wrong is not None:
        raise BadSet(wrong)
    return tuple([place for place in row if place in places])


def carried_on(order, places, line):
    """Return a line of the order that, cut down to the set of places, is the line told."""
    chosen = places_of(places, order.size)
    wrong = wrong_entry(line, lambda entry: entry in chosen)
    told = _checked_line(order, checked_row(line, wrong, len(chosen)))
    # No ring arises: a step between places of the set agrees with the line told.
    needs = list(order.belows)
    for at, place in enumerate(told):
        needs[place] = needs[place] | mask_of(told[:at])
    return least_row(needs, full_mask(order.size))
