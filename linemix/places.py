"""Places and sets of places, checked."""

from linemix.errors import BadPlace, BadSet
from linemix.numbers import is_int


def all_places(size):
    """Return the set 0 .. size - 1."""
    return tuple(range(size))


def is_place(value, size):
    """Tell whether the value is a place of an order of that size."""
    return is_int(value) and 0 <= value < size


def place_of(value, size, name):
    """Return the value if it is a place of an order of that size."""
    if not is_place(value, size):
        raise BadPlace(name)
    return value


def wrong_entry(value, fits):
    """Return the number of the first entry that is no integer, does not fit or repeats an earlier one.

    The answer is -1 for what is no list or tuple, and None if all entries are right.
    """
    if not isinstance(value, (list, tuple)):
        return -1
    seen = {}
    for at, entry in enumerate(value):
        if not is_int(entry) or entry in seen or not fits(entry):
            return at
        seen[entry] = True
    return None


def places_of(value, size):
    """Return the set of the places that a list or tuple names."""
    wrong = wrong_entry(value, lambda entry: is_place(entry, size))
    if wrong is not None:
        raise BadSet(wrong)
    return tuple(sorted(value))


def couples_of(row):
    """Return the list of all tuples of two entries of a row, the one that stands ahead first."""
    return [(entry, other) for at, entry in enumerate(row) for other in row[at + 1:]]


def sets_of(places, many):
    """Return the list of all sets of so many of the places, which ascend, ascending."""
    found = [()]
    for _ in range(many):
        found = [chosen + (place,) for chosen in found for place in places if not chosen or place > chosen[-1]]
    return found
