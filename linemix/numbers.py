"""Integers that are checked, and exact fractions as tuples (top, bottom)."""

from math import gcd

from linemix.errors import BadNumber, BadRates


def is_int(value):
    """Tell whether a value of any kind is an integer."""
    # Python counts True and False among the integers; the document does not.
    return isinstance(value, int) and not isinstance(value, bool)


def is_at_least(value, least):
    """Tell whether a value of any kind is an integer that is not below least."""
    return is_int(value) and value >= least


def is_between(value, least, most):
    """Tell whether a value of any kind is an integer from least to most; most None means without upper end."""
    return is_at_least(value, least) and (most is None or value <= most)


def check_number(value, name, least, most):
    """Return the value if it is an integer from least to most; most None means without upper end."""
    if not is_between(value, least, most):
        raise BadNumber(name)
    return value


def rates_told(value, many, least, most=None):
    """Return the tuple of so many integers from least to most, which a list or tuple tells; None as in check_number."""
    if not isinstance(value, (list, tuple)):
        raise BadRates(-1)
    for at, rate in enumerate(value):
        if not is_between(rate, least, most):
            raise BadRates(at)
    if len(value) != many:
        raise BadRates(len(value))
    return tuple(value)


def is_fraction(value):
    """Tell whether a value of any kind is a tuple of two integers, the second one at least 1."""
    return isinstance(value, tuple) and len(value) == 2 and is_int(value[0]) and is_at_least(value[1], 1)


def lowest(top, bottom):
    """Return the fraction top / bottom in lowest terms; bottom may be below 0, but not 0."""
    if not is_int(top):
        raise BadNumber("top")
    if not is_int(bottom) or bottom == 0:
        raise BadNumber("bottom")
    # Dividing by a divisor below 0 turns both signs and leaves the bottom above 0.
    divisor = gcd(top, bottom) if bottom > 0 else -gcd(top, bottom)
    return top // divisor, bottom // divisor


def add_up(one, other):
    """Return the sum of two fractions."""
    return lowest(one[0] * other[1] + other[0] * one[1], one[1] * other[1])


def is_at_most(one, other):
    """Tell whether the first fraction is less than or equal to the second one."""
    return one[0] * other[1] <= other[0] * one[1]


def greater_of(one, other):
    """Return the greater one of two fractions."""
    return other if is_at_most(one, other) else one


def scaled(fraction, number):
    """Return the fraction times an integer."""
    return lowest(fraction[0] * number, fraction[1])
