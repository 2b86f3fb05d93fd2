"""The first binary digits and the last decimal digits of numbers."""

from sandreckoner.digits import bare_floor, bare_length
from sandreckoner.errors import NotAllowed
from sandreckoner.remainders import remainder
from sandreckoner.small import plus_small, value_within
from sandreckoner.sums import absolute

MAX_LEAD = 60
MAX_LAST = 4
POWERS_OF_TEN = (1, 10, 100, 1000, 10000)


def check_many(k, most):
    if k < 1 or k > most:
        raise NotAllowed("the number of digits is out of range")


def lead(x, k):
    """The first k binary digits of |x| as an integer, or |x| if it has no more than k."""
    check_many(k, MAX_LEAD)
    whole = absolute(x)
    value = value_within(whole, k)
    if value is not None and value < 1 << k:
        return value
    place = plus_small(bare_length(whole), -k)
    return value_within(bare_floor(whole, place), k)


def last_digits(x, k):
    """The last k decimal digits of |x| as an integer."""
    check_many(k, MAX_LAST)
    return remainder(absolute(x), POWERS_OF_TEN[k])
