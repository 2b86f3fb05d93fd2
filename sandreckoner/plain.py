"""Texts of numbers as they are shown, and plain texts of formulas."""

from sandreckoner.errors import TooLarge
from sandreckoner.formulas import unrolled
from sandreckoner.small import value_within
from sandreckoner.tokens import MAX_TEXT

DECIMAL_END = 10 ** 18
MARKS_OF = {"add": " + ", "sub": " - ", "mul": " * ", "up": " << ", "down": " >> "}
# How tightly operations bind; everything else is SINGLE.
RANKS = {"add": 1, "sub": 1, "mul": 2, "up": 2, "down": 2}
SINGLE = 3


def decimal_value(x):
    """The integer for a number that is written in decimal digits, otherwise None."""
    value = value_within(x, DECIMAL_END.bit_length())
    return value if value is not None and abs(value) < DECIMAL_END else None


def text_of_any_length(x):
    value = decimal_value(x)
    if value is not None:
        return str(value)
    first = "-" if x[0][0] < 0 else ""
    others = "".join([f" + {power_text(e)}" if sign > 0 else f" - {power_text(e)}" for sign, e in x[1:]])
    return first + power_text(x[0][1]) + others


def power_text(exponent):
    text = text_of_any_length(exponent)
    return f"2^({text})" if decimal_value(exponent) is None else f"2^{text}"


def shown_text(x):
    """The text of a number as it is shown."""
    text = text_of_any_length(x)
    if len(text) > MAX_TEXT:
        raise TooLarge("the text is too long")
    return text


def plain_text(tree):
    """The text of a tree without parentheses and spaces that are not needed."""
    first, steps = unrolled(tree)
    text = single_text(first)
    rank = SINGLE
    for kind, right in steps:
        if rank < RANKS[kind]:
            text = f"({text})"
        rank = RANKS[kind]
        text = text + MARKS_OF[kind] + operand_text(right, rank + 1)
    return text


def operand_text(tree, least):
    """The plain text of a tree, in parentheses if it binds less tightly than asked for."""
    text = plain_text(tree)
    return f"({text})" if RANKS.get(tree[0], SINGLE) < least else text


def single_text(tree):
    """The plain text of a tree that is no sum and no product."""
    kind = tree[0]
    if kind == "neg":
        return "-" + operand_text(tree[1], SINGLE)
    if kind == "pow":
        return "2^" + operand_text(tree[1], SINGLE)
    if kind == "call":
        args = ", ".join([plain_text(part) for part in tree[2]])
        return f"{tree[1]}({args})"
    return str(tree[1])
