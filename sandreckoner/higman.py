"""Higman's group: the lengths of words, and whether words are the unit."""

from sandreckoner.factors import Factors
from sandreckoner.words import LETTERS_OF_HIGMAN, check_word, inverse_word


def end_of(word):
    """The length of a text of letters, and the powers of what is left."""
    factors = Factors(word)
    factors.reduce()
    return factors.end()


def length_of(word):
    """The length of a word."""
    check_word(LETTERS_OF_HIGMAN, word)
    return end_of(word)[0]


def is_unit(word):
    """Whether a word is the unit of the group."""
    check_word(LETTERS_OF_HIGMAN, word)
    return end_of(word) == (0, [])


def are_same(first, second):
    """Whether two words are the same element of the group."""
    check_word(LETTERS_OF_HIGMAN, first)
    check_word(LETTERS_OF_HIGMAN, second)
    return end_of(first + inverse_word(second)) == (0, [])
