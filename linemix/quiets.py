"""Quiet lots: what tolls cost if only couples of pairs count, not longer rings."""

from linemix.counts import check_fit
from linemix.lots import meeting_masks
from linemix.masks import full_mask, places_in
from linemix.pairs import are_against
from linemix.places import couples_of
from linemix.rings import least_rings, listed_lot
from linemix.tables import LotTable, paper_by


def greatest_quiet(order, pairs):
    """Return the list of the quiet lots of these pairs that lie in no greater one; each tells the numbers of pairs."""
    couples = [(1 << at) | (1 << other) for at, other in couples_of(list(range(len(pairs))))
               if are_against(order, pairs[at], pairs[other])]
    full = full_mask(len(pairs))
    return [places_in(full ^ mask) for mask in meeting_masks(couples)]


def quiet_cost(order, tolls):
    """Return the least total of weights on quiet lots that pay the tolls."""
    return quiet_paper(order, tolls).value_at(tolls)


def quiet_paper(order, tolls):
    """Return a paper by which no quiet lot weighs more than 1, and whose value at the tolls is the quiet cost."""
    check_fit(order, tolls)
    pairs = listed_lot(order, [(x, y) for x, y, _ in tolls.rows])
    return paper_by(LotTable(greatest_quiet(order, pairs)), tolls)


def loud_quiet(order, lot):
    """Return the first quiet lot within the lot, by size, then ascending, that is not turnable; None if there is none.
    """
    # The least lots that are not turnable are least rings, and those of three or more pairs are quiet.
    long = [ring for ring in least_rings(order, lot) if len(ring) > 2]
    return long[0] if long else None
