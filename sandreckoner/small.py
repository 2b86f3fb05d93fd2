"""Numbers and Python's integers, without the bounds of allowed numbers."""

# The numbers below FIRST_END, which most of the exponents of exponents are. To find one among them
# takes less time than to work it out.
FIRST_END = 8
FIRST_NUMBERS = (
    (),
    ((1, ()),),
    ((1, ((1, ()),)),),
    ((1, ((1, ((1, ()),)),)), (-1, ())),
    ((1, ((1, ((1, ()),)),)),),
    ((1, ((1, ((1, ()),)),)), (1, ())),
    ((1, ((1, ((1, ((1, ()),)),)), (-1, ()))), (-1, ((1, ()),))),
    ((1, ((1, ((1, ((1, ()),)),)), (-1, ()))), (-1, ())),
)


def signed_places(value):
    """The terms of an integer as pairs of a sign and a place, the least place first."""
    found = []
    place = 0
    while value != 0:
        zeros = (value & -value).bit_length() - 1
        place += zeros
        value >>= zeros
        # This sign makes the rest a multiple of 4, so the next place stays free.
        sign = 2 - (value & 3)
        found.append((sign, place))
        value -= sign
    return found


def bare_number(value):
    """The number for an integer."""
    if 0 <= value < FIRST_END:
        return FIRST_NUMBERS[value]
    return tuple([(sign, bare_number(place)) for sign, place in signed_places(value)[::-1]])


def value_within(number, bits):
    """The integer for a number, or None if one of its exponents is above bits."""
    total = 0
    for sign, exponent in number:
        if bits >= FIRST_END:
            # An exponent up to bits has no exponent above bits.bit_length() itself.
            place = value_within(exponent, bits.bit_length())
        elif exponent in FIRST_NUMBERS:
            place = FIRST_NUMBERS.index(exponent)
        else:
            return None
        if place is None or place > bits:
            return None
        total += sign << place
    return total


def plus_small(number, value):
    """The sum of a number and an integer."""
    if value == 0:
        return number
    keep = len(number)
    while keep > 0:
        sign, exponent = number[keep - 1]
        # The terms of value end at the place reach - 1 at the latest: what is above reach stays as it is.
        reach = value.bit_length() + 1
        place = value_within(exponent, reach.bit_length())
        if place is None or place > reach:
            break
        value += sign << place
        keep -= 1
    return number[:keep] + bare_number(value)
