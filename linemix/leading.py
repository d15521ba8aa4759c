"""Which pairs lead to which other ones, and the tight pairs, to which none leads."""

from linemix.pairs import all_pairs, pair_in, reaches
from linemix.ties import single_ties


def _is_led(order, pair, other):
    """Tell whether the pair leads to the other one."""
    return pair != other and reaches(order, pair[0], other[0]) and reaches(order, other[1], pair[1])


def leads(order, pair, other):
    """Tell whether pair leads to other."""
    first = pair_in(order, pair)
    second = pair_in(order, other)
    return _is_led(order, first, second)


def led_by(order, pair):
    """Return the lot of all pairs, open or sure, to which the pair leads."""
    told = pair_in(order, pair)
    return tuple([other for other in all_pairs(order) if _is_led(order, told, other)])


def tight_pairs(order):
    """Return the lot of all tight pairs."""
    # A pair is tight exactly if its tie is single.
    return single_ties(order)


def is_tight(order, pair):
    """Tell whether the pair is tight."""
    return pair_in(order, pair) in tight_pairs(order)


def tight_for(order, pair):
    """Return an open pair itself if it is tight, otherwise the least tight pair that leads to it; None if it is sure.
    """
    told = pair_in(order, pair)
    if reaches(order, told[1], told[0]):
        return None
    tight = tight_pairs(order)
    if told in tight:
        return told
    # Some tight pair leads to each open pair that is not tight.
    return [other for other in tight if _is_led(order, other, told)][0]
