"""The form of numbers, their size and order, and numbers for integers."""

from sandreckoner.bare import order
from sandreckoner.errors import NotAllowed, TooLarge
from sandreckoner.small import bare_number, plus_small, value_within

MAX_SIZE = 300
MAX_HEIGHT = 40
MAX_GIVEN_BITS = 2900
MAX_INT_BITS = 64


def levels(number):
    """The list of the number, the list of its exponents, that of their exponents, and so on."""
    rows = []
    row = [number]
    while row:
        rows.append(row)
        row = [exponent for item in row for _, exponent in item]
    return rows


def size_of(number):
    """The size of a number: how many numbers stand in it, itself included."""
    return sum([len(row) for row in levels(number)])


def height_of(number):
    """The height of a number: how deep exponents stand within it."""
    return len(levels(number)) - 1


def is_allowed(number):
    """Whether the size and the height are within the bounds."""
    rows = levels(number)
    return sum([len(row) for row in rows]) <= MAX_SIZE and len(rows) <= MAX_HEIGHT + 1


def allowed(number):
    """The number itself; raises TooLarge if it is not allowed."""
    if not is_allowed(number):
        raise TooLarge("the number is not allowed")
    return number


def check_number(number):
    """Raises NotAllowed if the tuple is not an allowed number."""
    # The bounds come first: they keep what looks at the form from going too deep.
    if not is_allowed(number) or not has_form(number):
        raise NotAllowed("not an allowed number")


def has_form(number):
    """Whether a tuple has the form of a number."""
    for sign, exponent in number:
        if sign not in (1, -1) or not has_form(exponent) or sign_of(exponent) < 0:
            return False
    exponents = [exponent for _, exponent in number]
    return all([are_apart(upper, lower) for upper, lower in zip(exponents, exponents[1:])])


def are_apart(upper, lower):
    """Whether the first number is greater than the second one by 2 or more."""
    return compare(upper, lower) > 0 and upper != plus_small(lower, 1)


def compare(first, second):
    """-1 if the first number is less than the second one, 0 if they are equal, otherwise 1."""
    return order(first, second)


def sign_of(number):
    """-1, 0 or 1."""
    return number[0][0] if number else 0


def of_int(value):
    """The number for an integer of at most 2900 binary digits."""
    if value.bit_length() > MAX_GIVEN_BITS:
        raise NotAllowed("the integer is too long")
    return allowed(bare_number(value))


def to_int(number):
    """The integer for a number of at most 64 binary digits."""
    value = value_within(number, MAX_INT_BITS)
    if value is None or value.bit_length() > MAX_INT_BITS:
        raise NotAllowed("the number is too great for an integer")
    return value
