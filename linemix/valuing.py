"""Which fractions are full costs of orders, and the crowns that reach them."""

from linemix.errors import BadFraction
from linemix.numbers import is_fraction, lowest


def _fraction_told(value):
    """Return the two integers of a fraction that need not be in lowest terms."""
    if not is_fraction(value):
        raise BadFraction("value")
    return value


def is_value(value):
    """Tell whether the fraction is the full cost of some order: 0, 1, or 2 or more."""
    top, bottom = _fraction_told(value)
    return top == 0 or top == bottom or top >= 2 * bottom


def crown_for(value):
    """Return the least crown, as a tuple (many, reach), with this full cost; None for a fraction of at most 2."""
    top, bottom = _fraction_told(value)
    if top <= 2 * bottom:
        return None
    # Many over reach + 2 is half the value, and many is above reach + 2, as the value is above 2.
    many, wide = lowest(top, 2 * bottom)
    return (2 * many, 0) if wide == 1 else (many, wide - 2)
