"""Order and sums of numbers, without the bounds of allowed numbers."""

from sandreckoner.small import plus_small, signed_places, value_within

NEAR_BITS = 64
# Numbers without an exponent above this are added as integers.
INTEGER_BITS = 512
# Likewise powers of two whose exponents have no exponent above this.
PLACE_BITS = 9


def order(first, second):
    """-1 if the first number is less than the second one, 0 if they are equal, otherwise 1."""
    if first == second:
        return 0
    turn = 1
    while first and second:
        for left, right in zip(first, second):
            if left != right:
                break
        else:
            # One of them has no more terms, so the next term of the other one decides.
            first, second = first[len(second):], second[len(first):]
            break
        sign, first = left
        other, second = right
        if sign != other:
            return turn * sign
        # Of negative terms that with the lesser exponent makes its number the greater one.
        turn *= sign
    return turn * first[0][0] if first else -turn * second[0][0]


def gap(first, second):
    """The first number less the second one as an integer, or None if it is greater than 2 ** NEAR_BITS."""
    same = 0
    for left, right in zip(first, second):
        if left != right:
            break
        same += 1
    upper = first[same:]
    lower = second[same:]
    # Where upper and lower have no term within two places below one that they have, what is further
    # below cannot make up for the difference so far. So terms that nearly cancel out begin at most
    # this high.
    bits = NEAR_BITS + 2 * (len(upper) + len(lower))
    high = value_within(upper, bits)
    if high is None:
        return None
    low = value_within(lower, bits)
    return None if low is None else high - low


def terms_at(base, value):
    """The terms of value * 2 ** base, the least exponent first."""
    if value == 1 or value == -1:
        return [(value, base)]
    return [(sign, plus_small(base, place)) for sign, place in signed_places(value)]


def settled(row, many):
    """The sum of value * 2 ** exponent over a row of pairs (value, exponent), in ascending order of the exponents.

    The pairs from the index many on are terms of one number.
    """
    found = []
    at = 0
    while at < many:
        value, base = row[at]
        at += 1
        while at < len(row):
            step = gap(row[at][1], base)
            # The terms of value end at the place value.bit_length(): they do not reach two places above it.
            if step is None or step > value.bit_length() + 1:
                break
            value += row[at][0] << step
            at += 1
        found.extend(terms_at(base, value))
    # What is left of a number that nothing has been added to is as it should be.
    found.extend(row[at:])
    return tuple(found[::-1])


def plus(first, second):
    """The sum of two numbers."""
    value = value_within(second, INTEGER_BITS)
    if value is not None:
        return plus_small(first, value)
    value = value_within(first, INTEGER_BITS)
    if value is not None:
        return plus_small(second, value)
    row = []
    at = len(first)
    other = len(second)
    while at > 0 and other > 0:
        if order(first[at - 1][1], second[other - 1][1]) < 0:
            at -= 1
            row.append(first[at])
        else:
            other -= 1
            row.append(second[other])
    rest = first[:at] + second[:other]
    return settled(row + list(rest[::-1]), len(row))


def index_in(row, exponent):
    """The index of the first pair of a row whose exponent is not below the given one.

    The row has pairs (value, exponent) in ascending order of the exponents.
    """
    begin = 0
    end = len(row)
    while begin < end:
        middle = (begin + end) // 2
        if order(row[middle][1], exponent) < 0:
            begin = middle + 1
        else:
            end = middle
    return begin


def bare_sum(terms):
    """The sum of s * 2 ** e over pairs (s, e) in any order, with exponents from 0 on."""
    total = 0
    row = []
    for sign, exponent in terms:
        place = value_within(exponent, PLACE_BITS)
        if place is not None:
            total += sign << place
            continue
        at = index_in(row, exponent)
        if at < len(row) and row[at][1] == exponent:
            row[at] = (row[at][0] + sign, exponent)
        else:
            row.insert(at, (sign, exponent))
    return plus_small(settled(row, len(row)), total)


def bare_shift(terms, places):
    """The terms with places added to each exponent. They are a number if no exponent comes below 0."""
    value = value_within(places, INTEGER_BITS)
    if value is not None:
        return tuple([(sign, plus_small(exponent, value)) for sign, exponent in terms])
    return tuple([(sign, plus(exponent, places)) for sign, exponent in terms])
