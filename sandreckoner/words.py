"""Words over letters and their capitals, which stand for the inverses."""

MAX_WORD = 40


def is_word(letters, word):
    """Whether a text is a word over the given small letters."""
    signs = letters + letters.upper()
    return len(word) <= MAX_WORD and all([sign in signs for sign in word])


def inverse_word(word):
    """The word for the inverse of what a word stands for."""
    return word[::-1].swapcase()
