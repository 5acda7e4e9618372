"""Every refusal of the program."""


class LeapError(ValueError):
    """Any refusal."""


class ToldError(LeapError):
    """What was handed in is not what it should be."""


class NoCart(ToldError):
    """Not a cart's weight."""


class NoFolk(ToldError):
    """Not folk."""


class NoLeaps(ToldError):
    """Not leaps at once of those on the cart."""


class AskedError(LeapError):
    """What was asked for cannot be told."""


class TooMany(AskedError):
    """More folk than the question takes; most is how many it takes."""

    def __init__(self, most):
        super().__init__(f"of at most {most} folk")
        self.most = most


class NothingLeft(AskedError):
    """Nothing is left to take back."""
