"""The points of DOC.md written out as plainly as can be, to hold the program against."""

TOP = 1000000000
MOST = 1000000


def plain_wanted(wishes, price):
    """Point 3: the amounts of all buyers whose limit is no less than the price."""
    total = 0
    for side, limit, amount in wishes:
        if side == "buy":
            if not limit < price:
                total += amount
    return total


def plain_offered(wishes, price):
    """Point 3: the amounts of all sellers whose limit is no greater than the price."""
    total = 0
    for side, limit, amount in wishes:
        if side == "sell":
            if not limit > price:
                total += amount
    return total


def plain_clears(wishes, price):
    """Point 4: the two things that hold at a price that clears."""
    if plain_wanted(wishes, price + 1) > plain_offered(wishes, price):
        return False
    if plain_offered(wishes, price - 1) > plain_wanted(wishes, price):
        return False
    return True


def turning_prices(wishes, *others):
    """The ends, the others, each limit, one below and one above each, rising.

    Nothing of point 4 changes but at such a price, so the first and the last
    of those that clear, and the nearest one to a price among the others, are
    among these.
    """
    found = {0, 1, TOP - 1, TOP, *others}
    for _, limit, _ in wishes:
        found |= {limit - 1, limit, limit + 1}
    return sorted(price for price in found if 0 <= price <= TOP)


def plain_clearing(wishes, *others):
    """Those of the turning prices that clear, rising."""
    return [price for price in turning_prices(wishes, *others) if plain_clears(wishes, price)]


def plain_nearest(wishes, old):
    """Point 5: the price that clears and lies nearest to the old one."""
    return min(plain_clearing(wishes, old), key=lambda price: abs(price - old))
