"""Renamings of the places that keep all steps, and mixes and papers averaged over them."""

from linemix.counts import Counts, check_fit
from linemix.errors import NoPairs, NotAlike, OtherSize, TooMany, Unfit
from linemix.leading import tight_pairs
from linemix.lines import row_of, row_told
from linemix.lots import most_at_once
from linemix.masks import mask_of, places_in
from linemix.mixes import Mix
from linemix.numbers import lowest
from linemix.pairs import lot_of, open_masks
from linemix.papers import Paper
from linemix.rings import listed_lot

MOST_RENAMINGS = 1000


def _images_at_first(order):
    """Return for each place the mask of the places that have as many places below and above them."""
    kinds = [(len(order.below(place)), len(order.above(place))) for place in range(order.size)]
    return [mask_of([place for place, other in enumerate(kinds) if other == kind]) for kind in kinds]


def _images_left(order, images, place, image):
    """Return the masks of the images left for each place if the place is led to the image; None if one has none."""
    opens = open_masks(order)[image]
    left = []
    for other, mask in enumerate(images):
        if other == place:
            left.append(1 << image)
        elif order.aboves[place] >> other & 1:
            left.append(mask & order.aboves[image])
        elif order.belows[place] >> other & 1:
            left.append(mask & order.belows[image])
        else:
            left.append(mask & opens)
    return left if all([mask > 0 for mask in left]) else None


def _find_rows(order, images, free, found):
    """Put the renamings with these images into found, until there are too many; free are the places not led yet."""
    if not free:
        found.append(tuple([mask.bit_length() - 1 for mask in images]))
        return
    # The place with the fewest images comes next: so a choice that leads nowhere is soon seen.
    _, place = min([(len(places_in(images[other])), other) for other in free])
    for image in places_in(images[place]):
        left = _images_left(order, images, place, image)
        if left is not None and len(found) <= MOST_RENAMINGS:
            _find_rows(order, left, [other for other in free if other != place], found)


def renamings(order):
    """Return the list of all renamings, ascending."""
    found = []
    _find_rows(order, _images_at_first(order), list(range(order.size)), found)
    if len(found) > MOST_RENAMINGS:
        raise TooMany(MOST_RENAMINGS)
    return sorted(found)


def _renamed_line(line, row):
    """Return the line with each place led by the row."""
    return tuple([row[place] for place in line])


def renamed_counts(counts, row):
    """Return the counts with the number of (x, y) at (row[x], row[y])."""
    told = row_told(row)
    for x, y, _ in counts.rows:
        if x >= len(told) or y >= len(told):
            raise Unfit(x, y)
    return Counts([(told[x], told[y], number) for x, y, number in counts.rows])


def renamed_mix(mix, row):
    """Return the mix of the renamed lines."""
    if not mix.rows:
        return mix
    told = row_of(row, mix.size)
    return Mix(mix.bottom, [(_renamed_line(line, told), number) for line, number in mix.rows])


def _keeps(row, tolls):
    """Tell whether the row leads each toll to an equal one."""
    return all([tolls[row[x], row[y]] == toll for x, y, toll in tolls.rows])


def keeping(order, tolls):
    """Return the list of the renamings of the order that lead the tolls to themselves, ascending."""
    check_fit(order, tolls)
    return [row for row in renamings(order) if _keeps(row, tolls)]


def averaged(order, tolls, mix):
    """Return the mean of the mixes that the renamings which keep the tolls make of the mix."""
    check_fit(order, tolls)
    if mix.rows and mix.size != order.size:
        raise OtherSize(mix.size)
    kept = keeping(order, tolls)
    rows = [(_renamed_line(line, row), number) for row in kept for line, number in mix.rows]
    return Mix(mix.bottom * len(kept), rows)


def averaged_paper(order, tolls, paper):
    """Return the mean of the papers that the renamings which keep the tolls make of the paper."""
    check_fit(order, tolls)
    check_fit(order, paper.counts)
    kept = keeping(order, tolls)
    sums = {}
    for row in kept:
        for x, y, number in paper.counts.rows:
            sums[row[x], row[y]] = sums.get((row[x], row[y]), 0) + number
    return Paper(paper.bottom * len(kept), Counts([(x, y, sums[x, y]) for x, y in sums]))


def are_exchangeable(order, lot):
    """Tell whether for each two pairs of the lot some renaming leads the first to the second."""
    pairs = lot_of(order, lot)
    rows = renamings(order)
    if not pairs:
        return True
    # What a pair is led to is led back to it by some other renaming.
    x, y = pairs[0]
    images = {(row[x], row[y]): True for row in rows}
    return all([pair in images for pair in pairs])


def exchanged_cost(order):
    """Return the number of tight pairs, which must be exchangeable, divided by the most of them that one line turns."""
    if order.is_chain():
        raise NoPairs()
    tight = listed_lot(order, tight_pairs(order))
    if not are_exchangeable(order, tight):
        raise NotAlike()
    return lowest(len(tight), most_at_once(order, tight))
