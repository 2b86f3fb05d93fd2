"""Products and shifts of numbers."""

from sandreckoner.bare import bare_shift, bare_sum, plus
from sandreckoner.errors import BadRange, TooLarge
from sandreckoner.forms import allowed, sign_of

MAX_PRODUCT = 400


def shift(number, places):
    """number * 2 ** places, where places may be negative."""
    if not number:
        return number
    sign, exponent = number[-1]
    # The least term decides whether the result is whole, as all others are multiples of it.
    least = plus(exponent, places)
    if sign_of(least) < 0:
        raise BadRange("not a whole number")
    return allowed(bare_shift(number[:-1], places) + ((sign, least),))


def multiply(first, second):
    """The product of two numbers."""
    if len(first) * len(second) > MAX_PRODUCT:
        raise TooLarge("too many products of terms")
    return allowed(bare_sum(
        [(sign * other, place) for sign, exponent in first for other, place in bare_shift(second, exponent)]
    ))
