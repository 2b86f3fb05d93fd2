"""Numbers and Python's integers, without the bounds of allowed numbers."""


def signed_places(value):
    """The terms of an integer as pairs of a sign and a place, the least place first."""
    found = []
    place = 0
    while value != 0:
        if value & 1:
            # This sign makes the rest a multiple of 4, so the next place stays free.
            sign = 2 - (value & 3)
            found.append((sign, place))
            value -= sign
        value >>= 1
        place += 1
    return found


def bare_number(value):
    """The number for an integer."""
    return tuple([(sign, bare_number(place)) for sign, place in signed_places(value)[::-1]])


def value_within(number, bits):
    """The integer for a number, or None if one of its exponents is above bits."""
    total = 0
    for sign, exponent in number:
        # An exponent up to bits has no exponent above bits.bit_length() itself.
        place = value_within(exponent, bits.bit_length())
        if place is None or place > bits:
            return None
        total += sign << place
    return total


def plus_small(number, value):
    """The sum of a number and an integer."""
    if value == 0:
        return number
    keep = len(number)
    while keep > 0:
        sign, exponent = number[keep - 1]
        # The terms of value end at the place reach - 1 at the latest: what is above reach stays as it is.
        reach = value.bit_length() + 1
        place = value_within(exponent, reach.bit_length())
        if place is None or place > reach:
            break
        value += sign << place
        keep -= 1
    return number[:keep] + bare_number(value)
