"""Baumslag's group: elements, and whether words are the unit."""

from sandreckoner.affine import bare_inverse, bare_plain, bare_product
from sandreckoner.forms import allowed
from sandreckoner.pinches import Row
from sandreckoner.words import LETTERS_OF_BAUMSLAG, check_word, inverse_word

UNIT = ((), (), ())


def allowed_element(element):
    """The element itself; raises TooLarge if one of its numbers is not allowed."""
    return tuple([allowed(number) for number in element])


def is_plain(element):
    """Whether an element is plain: whether u is odd, or u and v are 0."""
    u, v, _ = element
    return u[-1][1] == () if u else v == ()


def plain(element):
    """The plain form of an element."""
    return allowed_element(bare_plain(element))


def multiply_elements(first, second):
    """The product of two elements."""
    return allowed_element(bare_product(first, second))


def inverse_element(element):
    """The inverse of an element."""
    return allowed_element(bare_inverse(element))


def leaves_unit(word):
    """Whether reducing a text of letters leaves the unit."""
    row = Row(word)
    row.reduce()
    return row.end() == (0, UNIT)


def is_unit(word):
    """Whether a word is the unit of the group."""
    check_word(LETTERS_OF_BAUMSLAG, word)
    return leaves_unit(word)


def are_same(first, second):
    """Whether two words are the same element of the group."""
    check_word(LETTERS_OF_BAUMSLAG, first)
    check_word(LETTERS_OF_BAUMSLAG, second)
    return leaves_unit(first + inverse_word(second))
