"""Texts of numbers."""

from sandreckoner.errors import BadForm, NotAllowed
from sandreckoner.forms import MAX_SIZE, check_number


def term_text(sign, exponent):
    mark = "+" if sign > 0 else "-"
    return f"{mark}[{number_text(exponent)}]"


def number_text(number):
    """The text of a number."""
    if not number:
        return "0"
    return "".join([term_text(sign, exponent) for sign, exponent in number])


def read_number(text):
    """The number with this text."""
    # In the text, each number within a number takes a sign, two brackets and at most a 0.
    if len(text) > 4 * MAX_SIZE:
        raise BadForm("longer than the text of any allowed number")
    number = loosely_read(text)
    try:
        check_number(number)
    except NotAllowed:
        raise BadForm("the text of no allowed number") from None
    # Reading was loose about what stands beside the terms; the text of the number is not.
    if number_text(number) != text:
        raise BadForm("not the text of a number")
    return number


def loosely_read(text):
    """The tuple that the signs and brackets of a text make up; whatever else stands there is passed over."""
    # A list of the terms so far for each bracket that is open, as a text may be too deep for recursion.
    rows = [[]]
    signs = []
    for at, mark in enumerate(text):
        if text[at:at + 2] in ("+[", "-["):
            signs.append(1 if mark == "+" else -1)
            rows.append([])
        elif mark == "]" and signs:
            exponent = tuple(rows.pop())
            rows[-1].append((signs.pop(), exponent))
    return tuple(rows[0])
