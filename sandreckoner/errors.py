"""The errors that the program raises."""


class ReckonError(ValueError):
    """The base class of all errors of the program."""


class NotAllowed(ReckonError):
    """An argument is outside of what a function takes."""


class BadForm(ReckonError):
    """A text does not have the form that it should have."""


class BadRange(ReckonError):
    """A result would not be a whole number."""


class TooLarge(ReckonError):
    """A result would not be allowed, or would take too much."""


class Missing(ReckonError):
    """Something that is asked for does not exist."""


class Ring(ReckonError):
    """A cell would depend on itself."""


class NoSteps(ReckonError):
    """No steps are left."""
