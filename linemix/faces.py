"""For the package itself: how far best mixes and best papers can differ, told by costs of tolls close by."""

from linemix.costs import best_paper, check_lower_sets, cost
from linemix.errors import TooMany
from linemix.numbers import add_up, lowest, scaled

MOST_FACED = 8
# Papers that hold with weights at up to nine pairs are means of some whose weights have bottoms of at most 144, the
# greatest determinant of nine rows of zeros and ones. So two of these differ by at least 1 / 144 ** 2 in their value at
# tolls, or not at all; and if all tolls are multiplied by more than that, changing some by 1 singles out one of those
# that are best.
SHARP = 10 ** 6


def check_faced(order, tolls):
    """Raise TooMany if more pairs are tolled than can be looked at so closely, or else as a cost does."""
    if len(tolls) > MOST_FACED:
        raise TooMany(MOST_FACED)
    check_lower_sets(order)


def cost_shift(order, tolls, pairs, step):
    """Return by how much the cost of the tolls times SHARP changes if step, 1 or -1, is added at each of these pairs.

    This is the sum of the weights at the pairs in best papers, with the sign of step: the greatest such sum for 1, the
    least one for -1, where the pairs must be tolled, and no paper may have more than 1 in all at them.
    """
    changed = tolls * SHARP
    for x, y in pairs:
        changed = changed.with_count(x, y, changed[x, y] + step)
    return add_up(cost(order, changed), scaled(cost(order, tolls), -SHARP))


def share_reached(order, tolls, pair):
    """Return the greatest share of an open pair in best mixes."""
    least = cost(order, tolls)
    share = least
    while True:
        # No best mix has more than this share. It is reached if asking for it costs no more, else a best paper for
        # such tolls shows a lesser share.
        raised = (tolls * share[1]).with_count(pair[0], pair[1], share[0])
        paper = best_paper(order, raised)
        if paper.value_at(raised) == scaled(least, share[1]):
            return share
        rest = paper.counts.with_count(pair[0], pair[1], 0).product_sum(tolls)
        share = lowest(least[0] * paper.bottom - rest * least[1], least[1] * paper.counts[pair])
