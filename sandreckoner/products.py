"""Products and shifts of numbers."""

from sandreckoner.bare import bare_shift, bare_sum
from sandreckoner.errors import BadRange, TooLarge
from sandreckoner.forms import allowed, sign_of

MAX_PRODUCT = 400


def shift(number, places):
    """number * 2 ** places, where places may be negative."""
    # The least term decides whether the result is whole, as all others are multiples of it.
    if number and sign_of(bare_sum(number[-1][1] + places)) < 0:
        raise BadRange("not a whole number")
    return allowed(bare_shift(number, places))


def multiply(first, second):
    """The product of two numbers."""
    if len(first) * len(second) > MAX_PRODUCT:
        raise TooLarge("too many products of terms")
    return allowed(bare_sum(
        [(sign * other, bare_sum(exponent + places)) for sign, exponent in first for other, places in second]
    ))
