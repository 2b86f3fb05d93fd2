"""Order and sums of numbers, without the bounds of allowed numbers."""

from sandreckoner.small import plus_small, signed_places, value_within

NEAR_BITS = 64


def rank(number, sign=1):
    """A tuple that stands among such tuples as sign * number does among numbers.

    The pair at the end lets a positive term be greater, and a negative one less, than no term.
    """
    return (*[(sign * own, rank(exponent, sign * own)) for own, exponent in number], (0,))


def rank_of_exponent(term):
    return rank(term[1])


def same_beginning(first, second):
    """How many terms two numbers have in common before they differ."""
    many = 0
    for left, right in zip(first, second):
        if left != right:
            break
        many += 1
    return many


def gap(greater, lesser):
    """The difference as an integer, or None if it is greater than 2 ** NEAR_BITS."""
    if greater == lesser:
        return 0
    same = same_beginning(greater, lesser)
    upper = greater[same:]
    lower = lesser[same:]
    # Where upper and lower have no term within two places below one that they have, what is further
    # below cannot make up for the difference so far. So terms that nearly cancel out begin at most
    # this high.
    bits = NEAR_BITS + 2 * (len(upper) + len(lower))
    high = value_within(upper, bits)
    low = value_within(lower, bits)
    if high is None or low is None:
        return None
    return high - low


def gathered(terms, at):
    """The sum of the terms from the index at on that can touch each other, and the index behind them.

    The sum is an integer that counts the first of these terms' power of two. The terms are in
    ascending order of their exponents.
    """
    value, last = terms[at]
    place = 0
    at += 1
    while at < len(terms):
        sign, exponent = terms[at]
        step = gap(exponent, last)
        # The terms of value end at the place value.bit_length(): they do not reach two places above it.
        if step is None or place + step > value.bit_length() + 1:
            break
        place += step
        value += sign << place
        last = exponent
        at += 1
    return value, at


def bare_sum(terms):
    """The sum of s * 2 ** e over pairs (s, e) in any order, with exponents from 0 on."""
    ordered = sorted(terms, key=rank_of_exponent)
    found = []
    at = 0
    while at < len(ordered):
        base = ordered[at][1]
        value, at = gathered(ordered, at)
        found.extend([(sign, plus_small(base, place)) for sign, place in signed_places(value)])
    return tuple(found[::-1])


def bare_shift(terms, places):
    """The number that has the given terms with places added to each exponent, which stays at or above 0."""
    return tuple([(sign, bare_sum(exponent + places)) for sign, exponent in terms])
