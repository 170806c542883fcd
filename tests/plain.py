"""The points of DOC.md written out as plainly as can be, to hold the program against."""

TOP = 1000000000
MOST = 1000000


def plain_wanted(wishes, price):
    """Point 3: the amounts of all buyers whose limit is no less than the price."""
    total = 0
    for side, limit, amount in wishes:
        if side == "buy":
            if not limit < price:
                total += amount
    return total


def plain_offered(wishes, price):
    """Point 3: the amounts of all sellers whose limit is no greater than the price."""
    total = 0
    for side, limit, amount in wishes:
        if side == "sell":
            if not limit > price:
                total += amount
    return total


def plain_clears(wishes, price):
    """Point 4: the two things that hold at a price that clears."""
    if plain_wanted(wishes, price + 1) > plain_offered(wishes, price):
        return False
    if plain_offered(wishes, price - 1) > plain_wanted(wishes, price):
        return False
    return True


def turning_prices(wishes, *others):
    """The ends, the others, each limit, one below and one above each, rising.

    Nothing of point 4 changes but at such a price, so the first and the last
    of those that clear, and the nearest one to a price among the others, are
    among these.
    """
    found = {0, 1, TOP - 1, TOP, *others}
    for _, limit, _ in wishes:
        found |= {limit - 1, limit, limit + 1}
    return sorted(price for price in found if 0 <= price <= TOP)


def plain_clearing(wishes, *others):
    """Those of the turning prices that clear, rising."""
    return [price for price in turning_prices(wishes, *others) if plain_clears(wishes, price)]


def plain_nearest(wishes, old):
    """Point 5: the price that clears and lies nearest to the old one."""
    return min(plain_clearing(wishes, old), key=lambda price: abs(price - old))


def plain_turns(wishes, price, one_side):
    """Point 6: who of a side would deal at the price, in the order in which they go ahead."""
    waiting = []
    for number, (side, limit, _) in enumerate(wishes):
        if side != one_side:
            continue
        if side == "buy" and limit >= price or side == "sell" and limit <= price:
            waiting.append(number)
    turns = []
    while waiting:
        first = waiting[0]
        for number in waiting:
            limit, best = wishes[number][1], wishes[first][1]
            if one_side == "buy" and limit > best or one_side == "sell" and limit < best:
                first = number
        waiting.remove(first)
        turns.append(first)
    return turns


def plain_pieces_at(wishes, price):
    """Point 6: the pieces that are dealt out at a price."""
    pieces = [0 for _ in wishes]
    for side in ("buy", "sell"):
        left = plain_wanted(wishes, price)
        if plain_offered(wishes, price) < left:
            left = plain_offered(wishes, price)
        for number in plain_turns(wishes, price, side):
            amount = wishes[number][2]
            pieces[number] = left if left < amount else amount
            left = left - pieces[number]
    return pieces


def plain_gain(wish, price, pieces):
    """Point 7: the gain of a wish at a price by some pieces."""
    side, limit, _ = wish
    if side == "buy":
        return limit * pieces - price * pieces
    return price * pieces - limit * pieces


def plain_worth(wishes, pieces):
    """Point 7: the limits of all buyers times their pieces, less those of all sellers."""
    total = 0
    for number, (side, limit, _) in enumerate(wishes):
        if side == "buy":
            total += limit * pieces[number]
        else:
            total -= limit * pieces[number]
    return total


def plain_regrets(wishes, price, pieces):
    """Point 8: the wishes that another number of pieces would gain more.

    Every other number is tried where they are few, and else the ends and
    those beside.
    """
    told = []
    for number, wish in enumerate(wishes):
        amount, own = wish[2], pieces[number]
        others = range(amount + 1) if amount <= 12 else (0, own - 1, own + 1, amount)
        gains = [plain_gain(wish, price, other) for other in others if 0 <= other <= amount]
        if max(gains) > plain_gain(wish, price, own):
            told.append(number)
    return told


def plain_even(wishes, pieces):
    """Point 9: all buyers together have as many pieces as all sellers."""
    total = 0
    for number, (side, _, _) in enumerate(wishes):
        total += pieces[number] if side == "buy" else -pieces[number]
    return total == 0


def plain_pairs(wishes, pieces):
    """Point 9: each side's pieces are laid in a row by rising numbers; who lies beside whom deals."""
    rows = {"buy": [], "sell": []}
    for number, (side, _, _) in enumerate(wishes):
        row = rows[side]
        start = row[-1][2] if row else 0
        row.append((number, start, start + pieces[number]))
    told = []
    for buyer, start, end in rows["buy"]:
        for seller, first, last in rows["sell"]:
            many = min(end, last) - max(start, first)
            if many > 0:
                told.append((buyer, seller, many))
    return told


def plain_best_worth(wishes):
    """The greatest worth of even pieces: the best buyer and the best seller deal while that is worth something."""
    buyers = sorted(([limit, amount] for side, limit, amount in wishes if side == "buy"), reverse=True)
    sellers = sorted([limit, amount] for side, limit, amount in wishes if side == "sell")
    total = 0
    while buyers and sellers and buyers[0][0] > sellers[0][0]:
        many = min(buyers[0][1], sellers[0][1])
        total += many * (buyers[0][0] - sellers[0][0])
        for row in (buyers, sellers):
            row[0][1] -= many
            if row[0][1] == 0:
                del row[0]
    return total


class PlainBook:
    """Points 10 to 12: what a book tells, by the plain points above.

    Of each wish it keeps what was dealt and what was taken back, told apart.
    """

    def __init__(self, old):
        self.price = old
        self.wishes = []
        self.dealt = []
        self.taken = []
        self.money = []

    def add(self, wish):
        self.wishes.append(wish)
        self.dealt.append(0)
        self.taken.append(0)
        self.money.append(0)
        return len(self.wishes) - 1

    def left(self, number):
        return self.wishes[number][2] - self.dealt[number] - self.taken[number]

    def drop(self, number):
        many = self.left(number)
        self.taken[number] += many
        return many

    def standing(self):
        told = []
        for number, (side, limit, _) in enumerate(self.wishes):
            if self.left(number) != 0:
                told.append((number, (side, limit, self.left(number))))
        return told

    def ring(self):
        rows = self.standing()
        wishes = [wish for _, wish in rows]
        self.price = plain_nearest(wishes, self.price)
        told = []
        for buyer, seller, many in plain_pairs(wishes, plain_pieces_at(wishes, self.price)):
            pair = (rows[buyer][0], rows[seller][0], many)
            for number in pair[:2]:
                self.dealt[number] += many
                self.money[number] += many * self.price
            told.append(pair)
        return told
