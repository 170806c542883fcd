"""The prices that clear a list of wishes."""

from bidclear.errors import BadPrice
from bidclear.wishes import TOP, is_number, offered, wanted


def checked_price(thing):
    """Give back a price; refuse with BadPrice whatever else it is."""
    if not is_number(thing, 0, TOP):
        raise BadPrice(f"a price is a number from 0 to {TOP}")
    return thing


def is_too_low(wishes, price):
    """Tell whether buyers who would pay more than the price are left without pieces."""
    return wanted(wishes, price + 1) > offered(wishes, price)


def is_too_high(wishes, price):
    """Tell whether sellers who would take less than the price are left with pieces."""
    return offered(wishes, price - 1) > wanted(wishes, price)


def clears(wishes, price):
    """Tell whether a price clears the wishes."""
    return not is_too_low(wishes, price) and not is_too_high(wishes, price)


def lowest(wishes):
    """Find the least price that clears."""
    # A greater price is never too low where a lesser one is not, and TOP never
    # is; and the least price that is not too low is not too high either.  So
    # the prices can be halved instead of tried one by one.
    low = 0
    high = TOP
    while low < high:
        middle = (low + high) // 2
        if is_too_low(wishes, middle):
            low = middle + 1
        else:
            high = middle
    return low


def highest(wishes):
    """Find the greatest price that clears."""
    # The mirror of lowest: a lesser price is never too high where a greater
    # one is not, and nought never is.
    low = 0
    high = TOP
    while low < high:
        middle = (low + high + 1) // 2
        if is_too_high(wishes, middle):
            high = middle - 1
        else:
            low = middle
    return low


def price_by(wishes, old):
    """Find the price that clears and lies nearest to the old one."""
    checked_price(old)
    # Between the lowest and the highest every price clears, the old one too.
    return max(lowest(wishes), min(old, highest(wishes)))
