"""The errors that the program raises, and the words that tell them."""


class ReckonError(ValueError):
    """The base class of all errors of the program."""

    def __init__(self, why="", word=""):
        ValueError.__init__(self, why)
        self.word = word


class NotAllowed(ReckonError):
    """An argument is outside of what a function takes."""

    def __init__(self, why=""):
        ReckonError.__init__(self, why, "refused")


class BadForm(ReckonError):
    """A text does not have the form that it should have."""

    def __init__(self, why=""):
        ReckonError.__init__(self, why, "form")


class BadRange(ReckonError):
    """A result would not be a whole number."""

    def __init__(self, why=""):
        ReckonError.__init__(self, why, "range")


class TooLarge(ReckonError):
    """A result would not be allowed, or would take too much."""

    def __init__(self, why=""):
        ReckonError.__init__(self, why, "large")


class Missing(ReckonError):
    """Something that is asked for does not exist."""

    def __init__(self, why=""):
        ReckonError.__init__(self, why, "missing")


class Ring(ReckonError):
    """A cell would depend on itself."""

    def __init__(self, why=""):
        ReckonError.__init__(self, why, "ring")


class NoSteps(ReckonError):
    """No steps are left."""

    def __init__(self, why=""):
        ReckonError.__init__(self, why, "steps")


def raise_told(word):
    """Raises the error of a value that a word tells."""
    if word == "refused":
        raise NotAllowed("a name has this error")
    if word == "range":
        raise BadRange("a name has this error")
    if word == "large":
        raise TooLarge("a name has this error")
    raise Missing("a name has no value")
