"""Greatest turnable lots, least meetings of rings, and lots of pairs that are pairwise against one another."""

from linemix.errors import TooMany
from linemix.leading import tight_pairs
from linemix.masks import full_mask, mask_of, places_in
from linemix.pairs import are_against, lot_of
from linemix.places import couples_of
from linemix.rings import MOST_LISTED, listed_lot, ring_masks


def _holds_one(mask, masks):
    """Tell whether the mask holds all of one of the masks."""
    for part in masks:
        if mask & part == part:
            return True
    return False


def meeting_masks(masks):
    """Return the list of the least masks that have a bit of each of these masks."""
    found = [0]
    for asked in masks:
        meeting = [mask for mask in found if mask & asked]
        missing = [mask for mask in found if not mask & asked]
        # None of the grown ones holds another one of them, since each has just one bit of the mask asked.
        grown = [mask | (1 << at) for mask in missing for at in places_in(asked)]
        found = meeting + [mask for mask in grown if not _holds_one(mask, meeting)]
    return found


def _told_by(masks, pairs):
    """Return the list of the lots that masks of the numbers of pairs tell, ascending."""
    return sorted([tuple([pairs[at] for at in places_in(mask)]) for mask in masks])


def greatest_lots(order, lot):
    """Return the list of the turnable lots within the lot that lie in no greater one, ascending."""
    pairs = listed_lot(order, lot)
    full = full_mask(len(pairs))
    return _told_by([full ^ mask for mask in meeting_masks(ring_masks(order, pairs))], pairs)


def least_meetings(order, lot):
    """Return the list of all least meetings of the lot, ascending."""
    pairs = listed_lot(order, lot)
    return _told_by(meeting_masks(ring_masks(order, pairs)), pairs)


def most_at_once(order, lot):
    """Return the greatest number of pairs of the lot that one line turns."""
    pairs = listed_lot(order, lot)
    return len(pairs) - min([len(places_in(mask)) for mask in meeting_masks(ring_masks(order, pairs))])


def standard_from(order, lot):
    """Return the x's and the y's of three or more pairs, any two of them against one another; otherwise None."""
    pairs = lot_of(order, lot)
    if len(pairs) < 3 or not all([are_against(order, pair, other) for pair, other in couples_of(pairs)]):
        return None
    return tuple([x for x, _ in pairs]), tuple([y for _, y in pairs])


def _most_pairwise(rivals, left):
    """Return a greatest list of numbers from the mask left, each one in the masks that rivals holds for all others."""
    best = []
    rest = left
    for at in places_in(left):
        rest = rest ^ (1 << at)
        found = [at] + _most_pairwise(rivals, rest & rivals[at])
        if len(found) > len(best):
            best = found
    return best


def most_against(order):
    """Return a greatest lot of tight pairs, any two of which are against one another."""
    tight = tight_pairs(order)
    if len(tight) > MOST_LISTED:
        raise TooMany(MOST_LISTED)
    rivals = [mask_of([at for at, other in enumerate(tight) if are_against(order, pair, other)]) for pair in tight]
    return tuple([tight[at] for at in _most_pairwise(rivals, full_mask(len(tight)))])
