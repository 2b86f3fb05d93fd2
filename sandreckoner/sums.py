"""Sums and differences of numbers."""

from sandreckoner.bare import bare_sum, plus
from sandreckoner.errors import NotAllowed, TooLarge
from sandreckoner.forms import allowed, sign_of

MAX_TERMS = 400


def negate(number):
    """The number with the other sign."""
    return tuple([(-sign, exponent) for sign, exponent in number])


def absolute(number):
    """The number without its sign."""
    return negate(number) if sign_of(number) < 0 else number


def add(first, second):
    """The sum of two numbers."""
    return allowed(plus(first, second))


def subtract(first, second):
    """The first number less the second one."""
    return add(first, negate(second))


def sum_terms(terms):
    """The sum of s * 2 ** e over a list of pairs (s, e), in any order."""
    for sign, exponent in terms:
        if sign not in (1, -1) or sign_of(exponent) < 0:
            raise NotAllowed("not a term")
    if len(terms) > MAX_TERMS:
        raise TooLarge("too many terms")
    return allowed(bare_sum(terms))
