"""Higman's group: the factors that are handed over when a word is reduced."""

from sandreckoner.errors import Missing, NotAllowed
from sandreckoner.factors import Factors
from sandreckoner.words import LETTERS_OF_HIGMAN, check_word


def trace(word):
    """A tuple of what reducing a word hands over, its length, and the powers of what is left."""
    check_word(LETTERS_OF_HIGMAN, word)
    factors = Factors(word)
    steps = factors.reduce()
    left, end = factors.end()
    return steps, left, end


def check_trace(word, steps):
    """Hands over factors that are told by their places and powers: how many are left, and the powers left."""
    check_word(LETTERS_OF_HIGMAN, word)
    factors = Factors(word)
    for place, powers in steps:
        found = factors.powers_at(place)
        if found is None:
            raise Missing("no factor at this place can be handed over")
        if found != powers:
            raise NotAllowed("the factor has other powers")
        factors.hand_over(place, found)
    return factors.end()
