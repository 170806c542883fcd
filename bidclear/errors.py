"""The refusals of the program."""


class BidError(ValueError):
    """Any refusal."""


class BadWish(BidError):
    """What was handed in is no wish."""


class BadPrice(BidError):
    """What was handed in is no price."""


class BadPieces(BidError):
    """What was handed in tells no pieces of the wishes."""


class Uneven(BidError):
    """The buyers together have not as many pieces as the sellers."""


class NoSuch(BidError):
    """No wish stands under what was handed in."""


class Unread(BidError):
    """A text does not have the form of a wish."""
