"""Words over letters and their capitals, which stand for the inverses."""

from sandreckoner.errors import BadForm

MAX_WORD = 40
LETTERS_OF_BAUMSLAG = "ab"
LETTERS_OF_HIGMAN = "abcd"


def is_word(letters, word):
    """Whether a text is a word over the given small letters."""
    signs = letters + letters.upper()
    return len(word) <= MAX_WORD and all([sign in signs for sign in word])


def check_word(letters, word):
    """Raises BadForm if a text is not a word over the given small letters."""
    if not is_word(letters, word):
        raise BadForm("not a word over these letters")


def inverse_word(word):
    """The word for the inverse of what a word stands for."""
    return word[::-1].swapcase()
