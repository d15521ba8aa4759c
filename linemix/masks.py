"""Sets of places as masks: integers in which bit k tells whether place k belongs to the set."""


def full_mask(size):
    """Return the mask of the places 0 .. size - 1."""
    return (1 << size) - 1


def mask_of(places):
    """Return the mask of different places."""
    return sum([1 << place for place in places])


def places_in(mask):
    """Return the places of a mask, ascending."""
    return tuple([place for place in range(mask.bit_length()) if mask >> place & 1])
