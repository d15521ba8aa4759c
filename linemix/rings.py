"""Rings of pairs, which no line turns together."""

from linemix.errors import BadNumber, NotOpen, TooMany
from linemix.masks import full_mask, mask_of, places_in
from linemix.pairs import lot_of, reaches, row_of_pairs
from linemix.places import couples_of, places_of
from linemix.turning import line_turning

MOST_LISTED = 12


def is_ring(order, lot, row):
    """Tell whether the row is a ring, told in ring order, whose pairs are different and belong to the lot."""
    pairs = lot_of(order, lot)
    told = row_of_pairs(order, row)
    if len(told) < 2 or len(set(told)) < len(told):
        return False
    if not all([pair in pairs for pair in told]):
        return False
    following = told[1:] + told[:1]
    return all([reaches(order, pair[0], after[1]) for pair, after in zip(told, following)])


def _in_ring_order(order, pairs):
    """Return the pairs of a least ring in ring order."""
    row = [pairs[0]]
    while len(row) < len(pairs):
        # In a least ring each x is under the y of just one pair, so the next pair is determined.
        row.append([pair for pair in pairs if reaches(order, row[-1][0], pair[1])][0])
    return tuple(row)


def ring_in(order, lot):
    """Return None if the lot is turnable, otherwise a least ring of it, a tuple of its pairs in ring order."""
    pairs = lot_of(order, lot)
    if line_turning(order, pairs) is not None:
        return None
    # What is left when each pair without which the rest still has a ring is taken away is a least ring.
    kept = pairs
    for pair in pairs:
        rest = [other for other in kept if other != pair]
        if line_turning(order, rest) is None:
            kept = rest
    return _in_ring_order(order, kept)


def _rings_from(follow, path, free):
    """Return, as masks, the least rings that begin with the path and go on with pairs of the mask free.

    follow holds for each pair the mask of the pairs that may come next to it in a ring.
    """
    nexts = follow[path[-1]] & free
    found = []
    for pair in places_in(nexts):
        longer = path + [pair]
        if follow[pair] & mask_of(path[1:]):
            # A part of the longer path is a ring already.
            continue
        if follow[pair] >> path[0] & 1:
            found.append(mask_of(longer))
        else:
            # In a least ring each pair may come next to one pair only.
            found.extend(_rings_from(follow, longer, free ^ nexts))
    return found


def ring_masks(order, pairs):
    """Return the list of the least rings of a lot, each as a mask of the numbers of its pairs in the lot."""
    follow = [mask_of([at for at, pair in enumerate(pairs) if reaches(order, x, pair[1])]) for x, _ in pairs]
    found = []
    for first in range(len(pairs)):
        # Each ring is told once, from its least pair on.
        found.extend(_rings_from(follow, [first], full_mask(len(pairs)) ^ full_mask(first + 1)))
    return found


def listed_lot(order, lot):
    """Return the lot told if it is not too great for listing its rings."""
    pairs = lot_of(order, lot)
    if len(pairs) > MOST_LISTED:
        raise TooMany(MOST_LISTED)
    return pairs


def least_rings(order, lot):
    """Return the list of all least rings of the lot, each as a lot, by size, those of one size ascending."""
    pairs = listed_lot(order, lot)
    rings = [tuple([pairs[at] for at in places_in(mask)]) for mask in ring_masks(order, pairs)]
    return sorted(rings, key=lambda ring: (len(ring), ring))


def is_turnable(order, lot):
    """Tell whether some line turns all pairs of the lot."""
    return line_turning(order, lot_of(order, lot)) is not None


def ring_around(order, chosen):
    """Return the ring around an antichain of two or more places, a tuple of pairs in ring order."""
    places = places_of(chosen, order.size)
    for x, y in couples_of(places):
        if not order.are_open(x, y):
            raise NotOpen(x, y)
    if len(places) < 2:
        raise BadNumber("many")
    return tuple([(x, y) for x, y in zip(places[1:] + places[:1], places)])
