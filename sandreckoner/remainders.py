"""Remainders of numbers and of powers of two."""

from sandreckoner.errors import NotAllowed
from sandreckoner.forms import sign_of
from sandreckoner.small import value_within

MAX_MODULUS = 10000


def check_modulus(m):
    if m < 1 or m > MAX_MODULUS:
        raise NotAllowed("the modulus is out of range")


def power_row(m):
    """The different remainders of 2 ** 0, 2 ** 1, .. by m, in order, and the index of that which follows the last."""
    powers = []
    places = {}
    power = 1 % m
    while power not in places:
        places[power] = len(powers)
        powers.append(power)
        power = 2 * power % m
    return powers, places[power]


def power_rows(m):
    """Tuples of a modulus and its power row: for m, then for the period that m leads to, and so on.

    The row of each modulus asks for exponents by the next one. The last modulus leads to the period 1.
    """
    rows = []
    while m > 1:
        powers, lead = power_row(m)
        rows.append((m, powers, lead))
        m = len(powers) - lead
    return rows


def number_by_rows(x, rows, at):
    """The remainder of x by the modulus at an index of the rows; behind the last one the modulus is 1."""
    if at == len(rows):
        return 0
    return sum([sign * power_by_rows(exponent, rows, at) for sign, exponent in x]) % rows[at][0]


def power_by_rows(exponent, rows, at):
    """The remainder of 2 ** exponent by the modulus at an index of the rows."""
    _, powers, lead = rows[at]
    place = value_within(exponent, lead.bit_length())
    if place is not None and place < lead:
        return powers[place]
    turns = number_by_rows(exponent, rows, at + 1) - lead
    return powers[lead + turns % (len(powers) - lead)]


def remainder(x, m):
    """The integer from 0 to m - 1 by which x is above a multiple of m."""
    check_modulus(m)
    return number_by_rows(x, power_rows(m), 0)


def power_remainder(exponent, m):
    """The remainder of 2 ** exponent by m."""
    check_modulus(m)
    if sign_of(exponent) < 0:
        raise NotAllowed("the exponent is negative")
    return remainder(((1, exponent),), m)


def powers_of_two(m):
    """A tuple of the least lead and the least period of the remainders of the powers of two by m."""
    check_modulus(m)
    powers, lead = power_row(m)
    return lead, len(powers) - lead
