"""Wishes to buy and to sell, and what they come to at a price."""

from bidclear.errors import BadWish

TOP = 1000000000
MOST = 1000000


def is_number(thing, least, most):
    """Tell whether a thing is a whole number from the least to the most."""
    # The exact kind is asked for: True and False are no numbers, and a foreign
    # kind may answer a comparison by an error of its own.
    return type(thing) == int and least <= thing <= most


def is_side(thing):
    """Tell whether a thing is one of the two sides."""
    return type(thing) == str and thing in ("buy", "sell")


def checked(thing):
    """Give back a wish; refuse with BadWish whatever else it is."""
    # No message shows the thing itself: a foreign kind, or a number of very
    # many figures, may refuse to be written.
    if type(thing) != tuple or len(thing) != 3:
        raise BadWish("a wish is a tuple of a side, a limit and an amount")
    side, limit, amount = thing
    if not is_side(side):
        raise BadWish("the side is neither buy nor sell")
    if not is_number(limit, 0, TOP):
        raise BadWish(f"the limit is no number from 0 to {TOP}")
    if not is_number(amount, 1, MOST):
        raise BadWish(f"the amount is no number from 1 to {MOST}")
    return thing


def wanted(wishes, price):
    """Add up the amounts of the buyers who would pay the price."""
    return sum(amount for side, limit, amount in wishes if side == "buy" and limit >= price)


def offered(wishes, price):
    """Add up the amounts of the sellers who would take the price."""
    return sum(amount for side, limit, amount in wishes if side == "sell" and limit <= price)
