"""Which mixes, papers and lines are best, and which pairs get just their tolls in each best mix."""

from linemix.costs import cost
from linemix.counts import check_fit
from linemix.errors import BadPair, OtherTotal
from linemix.faces import check_faced, cost_shift
from linemix.lines import line_of, ranks_of
from linemix.mixes import Mix
from linemix.pairs import pair_in


def is_best_mix(order, tolls, mix):
    """Tell whether the mix is one of lines of the order that pays the tolls, with the cost as its total."""
    check_fit(order, tolls)
    check_faced(order, tolls)
    return mix.holds_in(order) and mix.pays(tolls) and mix.total == cost(order, tolls)


def is_best_paper(order, tolls, paper):
    """Tell whether the paper holds and its value at the tolls is the cost."""
    check_fit(order, tolls)
    check_fit(order, paper.counts)
    check_faced(order, tolls)
    return paper.holds_in_order(order) and paper.value_at(tolls) == cost(order, tolls)


def least_fullness(order, tolls, line):
    """Return the least fullness of the line under best papers with weights at tolled pairs alone."""
    check_fit(order, tolls)
    ranks = ranks_of(line_of(order, line))
    check_faced(order, tolls)
    turned = [(x, y) for x, y, _ in tolls.rows if ranks[x] > ranks[y]]
    top, bottom = cost_shift(order, tolls, turned, -1)
    return -top, bottom


def in_best(order, tolls, line):
    """Tell whether some best mix has the line."""
    # A line that all best papers let earn 1 is in some best mix.
    return least_fullness(order, tolls, line) == (1, 1)


def met_just(order, tolls, pair):
    """Tell whether each best mix has just the toll of the pair as its share."""
    check_fit(order, tolls)
    told = pair_in(order, pair)
    if tolls[told] == 0:
        raise BadPair(-1)
    check_faced(order, tolls)
    # This is so exactly if some best paper has a weight at the pair.
    return cost_shift(order, tolls, [told], 1)[0] > 0


def halfway(one, other):
    """Return the mix in which each line weighs the middle of what it weighs in the two mixes."""
    if one.total != other.total:
        raise OtherTotal()
    both = one + other
    return Mix(2 * both.bottom, both.rows)
