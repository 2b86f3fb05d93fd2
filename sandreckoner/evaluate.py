"""Values of formulas."""

from sandreckoner.digits import digit_at, floor_shift, length, low
from sandreckoner.errors import NotAllowed, raise_told
from sandreckoner.forms import allowed, compare
from sandreckoner.formulas import unrolled
from sandreckoner.products import multiply, shift
from sandreckoner.remainders import MAX_MODULUS, remainder
from sandreckoner.small import bare_number, value_within
from sandreckoner.sums import absolute, add, negate, subtract

MAX_TOWER = 40
ONE = ((1, ()),)


def value_of(tree, values):
    """The value of a tree, where names have the values that a dict gives them."""
    return value_over(tree, values, {})


def value_over(tree, values, words):
    """The value of a tree, where a name without a value has the error that a dict of words tells, or Missing."""
    first, steps = unrolled(tree)
    value = single_value(first, values, words)
    for kind, right in steps:
        value = operation_value(kind, value, value_over(right, values, words))
    return value


def operation_value(kind, first, second):
    if kind == "add":
        return add(first, second)
    if kind == "sub":
        return subtract(first, second)
    if kind == "mul":
        return multiply(first, second)
    if kind == "up":
        return shift(first, second)
    return floor_shift(first, second)


def single_value(tree, values, words):
    """The value of a tree that is no sum and no product."""
    kind = tree[0]
    if kind == "int":
        return allowed(bare_number(tree[1]))
    if kind == "name":
        if tree[1] not in values:
            raise_told(words.get(tree[1], "missing"))
        return values[tree[1]]
    if kind == "neg":
        return negate(value_over(tree[1], values, words))
    if kind == "pow":
        return shift(ONE, value_over(tree[1], values, words))
    return call_value(tree[1], [value_over(part, values, words) for part in tree[2]])


def call_value(name, args):
    first = args[0]
    if name == "len":
        return length(first)
    if name == "low":
        return low(first)
    if name == "abs":
        return absolute(first)
    if name == "tower":
        return tower_of(integer_up_to(MAX_TOWER, first))
    return call_value_of_two(name, first, args[1])


def call_value_of_two(name, first, second):
    if name == "rem":
        return bare_number(remainder(first, integer_up_to(MAX_MODULUS, second)))
    if name == "bit":
        return bare_number(digit_at(first, second))
    order = compare(first, second)
    if name == "min":
        return first if order <= 0 else second
    return first if order >= 0 else second


def integer_up_to(most, number):
    """The integer for a number from 0 to the given one."""
    value = value_within(number, most.bit_length())
    if value is None or value < 0 or value > most:
        raise NotAllowed("the number is out of range")
    return value


def tower_of(storeys):
    """2 ** 2 ** .. ** 1 with so many twos."""
    number = ONE
    for _ in range(storeys):
        number = ((1, number),)
    return allowed(number)
