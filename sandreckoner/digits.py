"""Binary digits of numbers."""

from sandreckoner.bare import bare_shift, gap, order
from sandreckoner.errors import Missing, NotAllowed
from sandreckoner.forms import allowed, sign_of
from sandreckoner.small import plus_small
from sandreckoner.sums import negate

MAX_COUNT = 64


def check_place(place):
    if sign_of(place) < 0:
        raise NotAllowed("the place is negative")


def many_from(x, place):
    """How many terms of x have exponents from a place on."""
    begin = 0
    end = len(x)
    while begin < end:
        middle = (begin + end) // 2
        if order(x[middle][1], place) < 0:
            end = middle
        else:
            begin = middle + 1
    return begin


def borrowed(x, many):
    """1 if the terms of x behind the first so many come to less than 0, otherwise 0.

    They come to less than the power of two of each of the first ones, so the floor is less by just this.
    """
    return 1 if sign_of(x[many:]) < 0 else 0


def bare_floor(x, y):
    """The floor of x / 2 ** y, allowed or not."""
    many = many_from(x, y)
    return plus_small(bare_shift(x[:many], negate(y)), -borrowed(x, many))


def floor_shift(x, y):
    """The floor of x / 2 ** y."""
    check_place(y)
    return allowed(bare_floor(x, y))


def digit_at(x, place):
    """The digit of x at a place, 0 or 1."""
    check_place(place)
    many = many_from(x, place)
    own = 1 if many > 0 and x[many - 1][1] == place else 0
    return own ^ borrowed(x, many)


def digits_from(x, place, count):
    """The list of count digits of x from a place on."""
    check_place(place)
    if count < 0 or count > MAX_COUNT:
        raise NotAllowed("the count is out of range")
    many = many_from(x, place)
    value = -borrowed(x, many)
    for sign, exponent in x[:many][::-1]:
        step = gap(exponent, place)
        if step is None or step >= count:
            break
        value += sign << step
    return [value >> at & 1 for at in range(count)]


def bare_length(x):
    """The length of x, allowed or not."""
    if not x:
        return ()
    sign, exponent = x[0]
    # Terms of the other sign behind the first one take it below its power of two, but not below half of it.
    return exponent if sign_of(x[1:]) == -sign else plus_small(exponent, 1)


def length(x):
    """The least number n from 0 on with |x| < 2 ** n."""
    return allowed(bare_length(x))


def low(x):
    """The greatest number n for which 2 ** n divides x."""
    if not x:
        raise Missing("0 has no lowest digit 1")
    return x[-1][1]
