"""Binary digits of numbers."""

from sandreckoner.bare import bare_shift, rank
from sandreckoner.errors import Missing, NotAllowed
from sandreckoner.forms import allowed, sign_of
from sandreckoner.small import plus_small, value_within
from sandreckoner.sums import negate

MAX_COUNT = 64


def check_place(place):
    if sign_of(place) < 0:
        raise NotAllowed("the place is negative")


def split_at(x, place):
    """The terms of x from a place on, and those below it."""
    bound = rank(place)
    many = len([exponent for _, exponent in x if rank(exponent) >= bound])
    return x[:many], x[many:]


def bare_floor(x, y):
    """The floor of x / 2 ** y, allowed or not."""
    upper, lower = split_at(x, y)
    whole = bare_shift(upper, negate(y))
    # The terms below the place y come to less than 2 ** y in either direction.
    return plus_small(whole, -1) if sign_of(lower) < 0 else whole


def low_value(x, bits):
    """An integer that has the digits of x at the places below bits."""
    total = 0
    for sign, exponent in x[::-1]:
        place = value_within(exponent, bits.bit_length())
        if place is None or place >= bits:
            break
        total += sign << place
    return total


def floor_shift(x, y):
    """The floor of x / 2 ** y."""
    check_place(y)
    return allowed(bare_floor(x, y))


def digit_at(x, place):
    """The digit of x at a place, 0 or 1."""
    return digits_from(x, place, 1)[0]


def digits_from(x, place, count):
    """The list of count digits of x from a place on."""
    check_place(place)
    if count < 0 or count > MAX_COUNT:
        raise NotAllowed("the count is out of range")
    value = low_value(bare_floor(x, place), count)
    return [value >> at & 1 for at in range(count)]


def bare_length(x):
    """The length of x, allowed or not."""
    if not x:
        return ()
    sign, exponent = x[0]
    # Terms of the other sign behind the first one take it below its power of two, but not below half of it.
    return exponent if sign_of(x[1:]) == -sign else plus_small(exponent, 1)


def length(x):
    """The least number n from 0 on with |x| < 2 ** n."""
    return allowed(bare_length(x))


def low(x):
    """The greatest number n for which 2 ** n divides x."""
    if not x:
        raise Missing("0 has no lowest digit 1")
    return x[-1][1]
