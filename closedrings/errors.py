"""The errors of the package; each is made from RingsError alone."""


class RingsError(ValueError):
    """What every refusal of this package is."""


class NoWeb(RingsError):
    """What was handed in makes no web."""


class NoTie(RingsError):
    """There is no such tie to put in or to take out."""


class NoText(RingsError):
    """What was handed in is not the text of a web."""


class NoHeld(RingsError):
    """What was handed in is no held ties of the web."""


class NoPut(RingsError):
    """What was handed in is no put, or no puts, of the web."""


class NoRing(RingsError):
    """What was handed in is not a ring of the kind that is needed."""


class NoWay(RingsError):
    """What was handed in is no way of the web."""


class NoRow(RingsError):
    """What was handed in is no row of counts."""


class NoNumber(RingsError):
    """There is no web of the kind for these numbers."""


class NotRich(RingsError):
    """The web is not rich: one and other are its poor pair."""

    def __init__(self, one, other):
        self.one = one
        self.other = other


class TooFew(RingsError):
    """The web has too few ties."""


class TooGreat(RingsError):
    """The web has more places than most."""

    def __init__(self, most):
        self.most = most


class NothingBack(RingsError):
    """There is nothing to take back."""
