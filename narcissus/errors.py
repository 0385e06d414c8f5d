"""The errors of Narcissus."""


class NarcissusError(ValueError):
    """The base class of all errors of Narcissus."""


class TooLarge(NarcissusError):
    """A tree or a program would be larger than allowed."""


class BadText(NarcissusError):
    """A string is not the text of a program."""


class NoCode(NarcissusError):
    """A tree is not the code of a program."""


class Ended(NarcissusError):
    """A run has ended, so that there is no further step."""


class OutOfSteps(NarcissusError):
    """A run has not ended after the steps that it was given."""


class TooWide(NarcissusError):
    """A program uses registers that a construction needs for itself."""


class BadClaim(NarcissusError):
    """A string is not the text of a claim."""
