"""Who deals at a price, what it gains them, and who deals with whom."""

from bidclear.errors import BadPieces, Uneven
from bidclear.prices import checked_price
from bidclear.wishes import is_number, offered, wanted


def check_pieces(wishes, pieces):
    """Refuse with BadPieces what tells no pieces of the wishes."""
    if not isinstance(pieces, list) or len(pieces) != len(wishes):
        raise BadPieces("pieces are told by a list of one number for each wish")
    for (side, limit, amount), part in zip(wishes, pieces):
        if not is_number(part, 0, amount):
            raise BadPieces("the pieces of a wish are no number from nought to its amount")


def buyers_in_turn(wishes, price):
    """List the numbers of the buyers who would pay the price, as they go ahead."""
    # With the sign of the limits turned, a rising order puts the greater limit
    # first, and of equal ones the lesser number.
    turns = [
        (-limit, number)
        for number, (side, limit, amount) in enumerate(wishes)
        if side == "buy" and limit >= price
    ]
    return [number for rank, number in sorted(turns)]


def sellers_in_turn(wishes, price):
    """List the numbers of the sellers who would take the price, as they go ahead."""
    turns = [
        (limit, number)
        for number, (side, limit, amount) in enumerate(wishes)
        if side == "sell" and limit <= price
    ]
    return [number for rank, number in sorted(turns)]


def pieces_at(wishes, price):
    """Deal out the pieces at a price, a number for each wish."""
    checked_price(price)
    dealt = min(wanted(wishes, price), offered(wishes, price))
    pieces = [0] * len(wishes)
    for turns in (buyers_in_turn(wishes, price), sellers_in_turn(wishes, price)):
        rest = dealt
        for number in turns:
            side, limit, amount = wishes[number]
            pieces[number] = min(amount, rest)
            rest -= pieces[number]
    return pieces


def gain(wish, price, pieces):
    """Work out what some pieces at a price gain a wish; a loss is below nought."""
    side, limit, amount = wish
    if side == "buy":
        return (limit - price) * pieces
    return (price - limit) * pieces


def worth(wishes, pieces):
    """Work out the worth of some pieces dealt out."""
    check_pieces(wishes, pieces)
    # At the price nought a buyer's gain is the limits themselves, and a
    # seller's is the limits taken off.
    return sum([gain(wish, 0, part) for wish, part in zip(wishes, pieces)])


def pieces_of_side(wishes, pieces, one_side):
    """Add up the pieces of all buyers, or of all sellers."""
    return sum([part for (side, limit, amount), part in zip(wishes, pieces) if side == one_side])


def even(wishes, pieces):
    """Tell whether all buyers together have as many pieces as all sellers."""
    check_pieces(wishes, pieces)
    return pieces_of_side(wishes, pieces, "buy") == pieces_of_side(wishes, pieces, "sell")


def is_regretted(wish, price, part):
    """Tell whether one piece more or one less would gain a wish more at a price."""
    side, limit, amount = wish
    gain_of_one = gain(wish, price, 1)
    if gain_of_one > 0:
        return part < amount
    return gain_of_one < 0 and part > 0


def regrets(wishes, price, pieces):
    """List the numbers of the wishes that regret their pieces at a price."""
    checked_price(price)
    check_pieces(wishes, pieces)
    return [number for number, wish in enumerate(wishes) if is_regretted(wish, price, pieces[number])]


def dealers(wishes, pieces, one_side):
    """List the numbers of one side's wishes that have pieces."""
    return [number for number, wish in enumerate(wishes) if wish[0] == one_side and pieces[number] > 0]


def pairs(wishes, pieces):
    """Pair buyers with sellers by rising numbers, as (buyer, seller, pieces)."""
    if not even(wishes, pieces):
        raise Uneven("the buyers together have not as many pieces as the sellers")
    rest = list(pieces)
    sellers = dealers(wishes, pieces, "sell")
    at = 0
    told = []
    for buyer in dealers(wishes, pieces, "buy"):
        # The pieces are even: while a buyer has some left, so has a seller.
        while rest[buyer] > 0:
            seller = sellers[at]
            many = min(rest[buyer], rest[seller])
            told.append((buyer, seller, many))
            rest[buyer] -= many
            rest[seller] -= many
            if rest[seller] == 0:
                at += 1
    return told
