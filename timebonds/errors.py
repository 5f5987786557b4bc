"""What the program refuses, and with which error."""


class BondError(ValueError):
    """Any refusal."""


class NoDeed(BondError):
    """A deed that there isn't."""


class NoBond(BondError):
    """A bond that there isn't."""


class NoTimes(BondError):
    """Bonds that no times meet."""
