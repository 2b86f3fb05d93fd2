"""Baumslag's group: the pinches that are made when a word is reduced."""

from sandreckoner.errors import Missing, NotAllowed
from sandreckoner.pinches import Row
from sandreckoner.words import LETTERS_OF_BAUMSLAG, check_word


def trace(word):
    """A tuple of the pinches that reducing a word makes, the number of outer letters left, and what is left."""
    check_word(LETTERS_OF_BAUMSLAG, word)
    row = Row(word)
    steps = row.reduce()
    left, end = row.end()
    return steps, left, end


def check_trace(word, steps):
    """Makes pinches that are told by their places and powers: the number of outer letters left, and what is left."""
    check_word(LETTERS_OF_BAUMSLAG, word)
    row = Row(word)
    for place, power in steps:
        found = row.power_at(place)
        if found is None:
            raise Missing("no pinch is at this place")
        if found != power:
            raise NotAllowed("the pinch has another power")
        row.make_pinch(place, found)
    return row.end()
