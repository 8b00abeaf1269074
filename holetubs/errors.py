"""The refusals: those of what is told, and those of what is asked."""


class TubError(ValueError):
    """Any refusal."""


class ToldError(TubError):
    """What was handed in is not what it should be."""


class NoTubs(ToldError):
    """Not tubs."""


class NoRain(ToldError):
    """Not a rain for these tubs."""


class NoName(ToldError):
    """Not the name of one of the tubs."""


class NoHeight(ToldError):
    """Not a fraction to pour."""


class NoHole(ToldError):
    """Not a pair (name, height) of one of the holes."""


class NoHours(ToldError):
    """Not a number of hours that can go by."""


class AskedError(TubError):
    """What was asked cannot be done as things stand."""


class Plugged(AskedError):
    """The hole has a plug already."""


class NotPlugged(AskedError):
    """The hole has no plug to be drawn."""


class NothingLeft(AskedError):
    """Nothing is left that could be taken back."""
