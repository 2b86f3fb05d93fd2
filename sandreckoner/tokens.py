"""Texts of formulas and programs, cut into their parts."""

from sandreckoner.errors import BadForm

MAX_TEXT = 1000
DIGITS = "0123456789"
SMALL_LETTERS = "abcdefghijklmnopqrstuvwxyz"
LETTERS = "abcdefghijklmnopqrstuvwxyzABCDEFGHIJKLMNOPQRSTUVWXYZ"
# The longer marks come first: of those that match the longest one is read.
MARKS = ("<<", ">>", "<=", "==", "!=", "+", "-", "*", "(", ")", ",", "=", ";", "{", "}", "<")


def run_of(characters, text, at):
    """The longest run of the given characters that begins at an index of the text."""
    end = at
    while end < len(text) and text[end] in characters:
        end += 1
    return text[at:end]


def token_at(text, at):
    """The word, run of digits, `2^` or mark that begins at an index of the text."""
    word = run_of(LETTERS, text, at)
    if word:
        return word
    digits = run_of(DIGITS, text, at)
    if digits == "2" and text[at + 1:at + 2] == "^":
        return "2^"
    if digits:
        return digits
    for mark in MARKS:
        if text[at:at + len(mark)] == mark:
            return mark
    raise BadForm("a character that belongs to nothing")


def tokens(text):
    """The list of the words, runs of digits, `2^` and marks of a text."""
    if len(text) > MAX_TEXT:
        raise BadForm("the text is too long")
    found = []
    at = 0
    while at < len(text):
        if text[at] == " ":
            at += 1
        else:
            token = token_at(text, at)
            found.append(token)
            at += len(token)
    return found
