"""Lists of wishes for the tests: some written out, some made by a fixed rule."""

from itertools import product

from tests.plain import MOST, TOP

HUGE = int("7" * 40)

NO_PRICES = (-1, TOP + 1, -TOP, 2 * TOP, HUGE, -HUGE)

NO_NUMBERS = (True, False, "5", "", b"5", None, [], [5], (5,), {}, {5: 5}, {5}, 5.0, float("nan"), 5j, int, len)

# Each with a name, its wishes, and the least and the greatest price that
# clears, worked out by hand.
KNOWN = (
    ("no wishes", [], 0, TOP),
    ("both sides meet in between", [("buy", 10, 5), ("sell", 4, 5)], 4, 10),
    ("more is wanted", [("buy", 10, 6), ("sell", 4, 5)], 10, 10),
    ("more is offered", [("buy", 10, 5), ("sell", 4, 6)], 4, 4),
    ("one price alone",
     [("buy", 10, 5), ("sell", 4, 3), ("buy", 7, 2), ("sell", 8, 4), ("buy", 4, 1)], 8, 8),
    ("two and two", [("buy", 9, 1), ("sell", 2, 1), ("sell", 5, 1), ("buy", 7, 1)], 5, 7),
    ("one of two deals", [("buy", 9, 1), ("buy", 6, 1), ("sell", 2, 1), ("sell", 8, 1)], 6, 8),
    ("equal limits", [("buy", 5, 2), ("sell", 5, 7)], 5, 5),
    ("nobody can deal", [("buy", 3, 2), ("sell", 9, 4)], 3, 9),
    ("one step apart", [("buy", 3, 2), ("sell", 4, 2)], 3, 4),
    ("buyers alone", [("buy", 3, 2), ("buy", 8, 1)], 8, TOP),
    ("sellers alone", [("sell", 3, 2), ("sell", 8, 1)], 0, 3),
    ("a buyer at nought", [("buy", 0, 1)], 0, TOP),
    ("a buyer at the top", [("buy", TOP, 1)], TOP, TOP),
    ("a seller at nought", [("sell", 0, 1)], 0, 0),
    ("a seller at the top", [("sell", TOP, 1)], 0, TOP),
    ("from end to end", [("sell", 0, MOST), ("buy", TOP, MOST)], 0, TOP),
    ("too few at the top", [("sell", 0, MOST - 1), ("buy", TOP, MOST)], TOP, TOP),
    ("too few at nought", [("sell", 0, MOST), ("buy", TOP, MOST - 1)], 0, 0),
    ("equal at nought", [("sell", 0, 1), ("buy", 0, 1)], 0, 0),
    ("equal at the top", [("buy", TOP, 1), ("sell", TOP, 1)], TOP, TOP),
    ("ends that cannot deal", [("buy", 0, 1), ("sell", TOP, 1)], 0, TOP),
    ("several at one limit",
     [("buy", 6, 2), ("sell", 6, 1), ("buy", 6, 3), ("sell", 6, 4), ("sell", 2, 1)], 6, 6),
    ("the same wish twice", [("buy", 6, 2), ("sell", 3, 2), ("buy", 6, 2), ("sell", 3, 2)], 3, 6),
)


class Rule:
    """Numbers by a fixed rule, the same ones in each run."""

    def __init__(self, seed):
        self.state = seed

    def below(self, bound):
        self.state = (self.state * 6364136223846793005 + 1442695040888963407) % 2 ** 64
        return (self.state >> 16) % bound

    def between(self, least, most):
        return least + self.below(most - least + 1)

    def wish(self, least, most, amount):
        side = ("buy", "sell")[self.below(2)]
        return side, self.between(least, most), self.between(1, amount)

    def pieces(self, wishes):
        """Pieces for wishes: nought, one, all but one, all, and any number between."""
        told = []
        for _, _, amount in wishes:
            told.append((0, 0, 1, amount - 1, amount, self.between(0, amount))[self.below(6)])
        return told

    def even_pieces(self, wishes):
        """Pieces of which both sides have as many, dealt out to whoever comes by."""
        told = [0] * len(wishes)
        buyers = [number for number, wish in enumerate(wishes) if wish[0] == "buy"]
        sellers = [number for number, wish in enumerate(wishes) if wish[0] == "sell"]
        for _ in range(2 * len(wishes) if buyers and sellers else 0):
            buyer, seller = buyers[self.below(len(buyers))], sellers[self.below(len(sellers))]
            many = min(wishes[buyer][2] - told[buyer], wishes[seller][2] - told[seller])
            if self.below(2):
                many = self.between(0, many)
            told[buyer] += many
            told[seller] += many
        return told


def some_of(things, rule, many):
    """All of the things where they are few, and else so many of them by the rule."""
    if len(things) <= many:
        return things
    return [things[rule.below(len(things))] for _ in range(many)]


def every_list(seed, many=400):
    """The known lists, some hundreds of made ones and the long ones."""
    return [known[1] for known in KNOWN] + made_lists(seed, many) + long_lists(seed + 1)


def made_lists(seed, many):
    """Lists of nought to twelve wishes, with limits close together and far apart."""
    rule = Rule(seed)
    ranges = ((0, 6), (TOP - 6, TOP), (500, 520), (0, TOP))
    amounts = (1, 3, 10, MOST)
    lists = []
    for at in range(many):
        least, most = ranges[at % 4]
        amount = amounts[at // 4 % 4]
        lists.append([rule.wish(least, most, amount) for _ in range(rule.below(13))])
    return lists


def long_lists(seed):
    """Lists of 200 wishes, with limits all over, at the ends, and amounts up to MOST."""
    rule = Rule(seed)
    lists = [
        [rule.wish(0, TOP, MOST) for _ in range(200)],
        [rule.wish(0, TOP, 1) for _ in range(200)],
        [rule.wish(0, TOP, MOST) for _ in range(190)]
        + [(side, limit, MOST) for side in ("buy", "sell") for limit in (0, 1, TOP - 1, TOP, TOP)],
        [rule.wish(0, 3, MOST) for _ in range(200)],
        [rule.wish(TOP - 3, TOP, MOST) for _ in range(200)],
        [(("buy", "sell")[rule.below(2)], rule.below(2) * TOP, MOST) for _ in range(200)],
        [("buy", rule.between(0, TOP), MOST) for _ in range(200)],
        [("sell", rule.between(0, TOP), MOST) for _ in range(200)],
        [("buy", TOP, MOST) for _ in range(200)],
        [("sell", 0, MOST) for _ in range(200)],
        [("buy", at * 5000000, MOST) for at in range(100)]
        + [("sell", at * 5000000 + 5, MOST) for at in range(100, 200)],
        [("sell", at * 5000000, MOST - at) for at in range(200)],
        [(("buy", "sell")[at % 2], at * 5025125, MOST - at) for at in range(200)],
        [(("buy", "sell")[at % 2], TOP - at * 5025125, MOST) for at in range(200)],
    ]
    return lists


def small_lists(base):
    """Every list of up to three wishes with the limits base to base + 2 and amounts 1, 2."""
    every = list(product(("buy", "sell"), range(base, base + 3), (1, 2)))
    lists = []
    for many in range(4):
        lists += [list(wishes) for wishes in product(every, repeat=many)]
    return lists
