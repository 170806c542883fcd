"""Points 1 and 6 to 9 and bidclear/deals.py: who deals at a price, and with whom."""

import unittest

from bidclear import deals as module
from bidclear.deals import even, gain, pairs, pieces_at, regrets, worth
from bidclear.errors import BadPieces, BadPrice, BidError, Uneven
from bidclear.prices import price_by
from bidclear.wishes import MOST, TOP
from tests.plain import (
    plain_even, plain_gain, plain_offered, plain_pairs, plain_pieces_at, plain_regrets, plain_wanted, plain_worth,
    turning_prices,
)
from tests.samples import (
    HUGE, NO_NUMBERS, NO_PRICES, Rule, every_list, long_lists, made_lists, small_lists, some_of,
)

# Each with a name, its wishes, a price, and the pieces dealt out, worked out by hand.
DEALT = (
    ("no wishes, at nought", [], 0, []),
    ("no wishes", [], 5, []),
    ("no wishes, at the top", [], TOP, []),
    ("buyers alone", [("buy", 5, 3), ("buy", 9, 2)], 5, [0, 0]),
    ("buyers alone, at nought", [("buy", 5, 3), ("buy", 9, 2)], 0, [0, 0]),
    ("sellers alone", [("sell", 5, 3), ("sell", 9, 2)], 9, [0, 0]),
    ("sellers alone, at the top", [("sell", 5, 3), ("sell", 9, 2)], TOP, [0, 0]),
    ("more is wanted", [("buy", 10, 6), ("sell", 4, 5)], 7, [5, 5]),
    ("more is wanted, at a price that clears", [("buy", 10, 6), ("sell", 4, 5)], 10, [5, 5]),
    ("more is wanted, below both", [("buy", 10, 6), ("sell", 4, 5)], 3, [0, 0]),
    ("more is wanted, above both", [("buy", 10, 6), ("sell", 4, 5)], 11, [0, 0]),
    ("more is offered", [("buy", 10, 5), ("sell", 4, 6)], 7, [5, 5]),
    ("more is offered, at a price that clears", [("buy", 10, 5), ("sell", 4, 6)], 4, [5, 5]),
    ("as many of both", [("buy", 10, 5), ("sell", 4, 5)], 7, [5, 5]),
    ("equal buyers", [("buy", 7, 2), ("sell", 3, 3), ("buy", 7, 2), ("buy", 7, 2)], 5, [2, 3, 1, 0]),
    ("equal sellers", [("sell", 3, 2), ("buy", 7, 3), ("sell", 3, 2), ("sell", 3, 2)], 5, [2, 3, 1, 0]),
    ("equal buyers, a small one last", [("buy", 7, 5), ("buy", 7, 1), ("sell", 3, 3)], 5, [3, 0, 3]),
    ("equal sellers, a small one last", [("sell", 3, 5), ("sell", 3, 1), ("buy", 7, 3)], 5, [3, 0, 3]),
    ("equal buyers, the small one first", [("buy", 7, 1), ("buy", 7, 5), ("sell", 3, 3)], 5, [1, 2, 3]),
    ("the greater buyer ahead", [("buy", 6, 2), ("buy", 9, 2), ("sell", 5, 3)], 6, [1, 2, 3]),
    ("the lesser buyer out", [("buy", 6, 2), ("buy", 9, 2), ("sell", 5, 3)], 7, [0, 2, 2]),
    ("the lesser seller ahead", [("sell", 6, 2), ("sell", 3, 2), ("buy", 7, 3)], 6, [1, 2, 3]),
    ("the greater seller out", [("sell", 6, 2), ("sell", 3, 2), ("buy", 7, 3)], 5, [0, 2, 2]),
    ("the last one in part", [("buy", 9, 4), ("buy", 8, 4), ("buy", 7, 4), ("sell", 1, 9)], 7, [4, 4, 1, 9]),
    ("the last seller in part", [("sell", 1, 4), ("sell", 2, 4), ("sell", 3, 4), ("buy", 9, 9)], 3, [4, 4, 1, 9]),
    ("nobody can deal, below", [("buy", 3, 2), ("sell", 9, 4)], 3, [0, 0]),
    ("nobody can deal, between", [("buy", 3, 2), ("sell", 9, 4)], 5, [0, 0]),
    ("nobody can deal, above", [("buy", 3, 2), ("sell", 9, 4)], 9, [0, 0]),
    ("at nought", [("buy", 0, 2), ("sell", 0, 3), ("buy", TOP, 2), ("sell", TOP, 5)], 0, [1, 3, 2, 0]),
    ("above nought", [("buy", 0, 2), ("sell", 0, 3), ("buy", TOP, 2), ("sell", TOP, 5)], 1, [0, 2, 2, 0]),
    ("below the top", [("buy", 0, 2), ("sell", 0, 1), ("buy", TOP, 4), ("sell", TOP, 5)], TOP - 1, [0, 1, 1, 0]),
    ("at the top", [("buy", 0, 2), ("sell", 0, 1), ("buy", TOP, 4), ("sell", TOP, 5)], TOP, [0, 1, 4, 3]),
    ("equal limits at the price", [("buy", 5, 2), ("sell", 5, 7)], 5, [2, 2]),
    ("all of MOST", [("sell", 0, MOST), ("buy", TOP, MOST), ("buy", TOP, 1)], 9, [MOST, MOST, 0]),
)

# Two buyers and two sellers, with pieces that are even.
FOUR = [("buy", 9, 4), ("sell", 2, 3), ("buy", 7, 2), ("sell", 5, 3)]
FOUR_EVEN = [3, 2, 1, 2]


def bad_rows(wishes, pieces):
    """What tells no pieces of the wishes, each spoilt at one place alone."""
    rows = [pieces + [0], pieces + [1], [0] + pieces]
    if pieces:
        rows += [pieces[:-1], pieces[1:], []]
    for at, (_, _, amount) in enumerate(wishes):
        for part in (-1, amount + 1, -amount - 1, MOST + 1, TOP, HUGE, -HUGE, *NO_NUMBERS):
            rows.append(pieces[:at] + [part] + pieces[at + 1:])
    return rows


class Interface(unittest.TestCase):
    def test_the_functions_are_defined_in_their_file(self):
        for name in ("pieces_at", "gain", "worth", "even", "regrets", "pairs"):
            self.assertEqual(getattr(module, name).__module__, "bidclear.deals")

    def test_the_arguments_have_their_names(self):
        self.assertEqual(pieces_at(wishes=FOUR, price=6), [4, 3, 2, 3])
        self.assertEqual(gain(wish=("buy", 9, 4), price=6, pieces=3), 9)
        self.assertEqual(worth(wishes=FOUR, pieces=FOUR_EVEN), 20)
        self.assertIs(even(wishes=FOUR, pieces=FOUR_EVEN), True)
        self.assertEqual(regrets(wishes=FOUR, price=6, pieces=FOUR_EVEN), [0, 1, 2, 3])
        self.assertEqual(pairs(wishes=FOUR, pieces=FOUR_EVEN), [(0, 1, 2), (0, 3, 1), (2, 3, 1)])


class PiecesAt(unittest.TestCase):
    def assert_pieces(self, wishes, price, known):
        told = pieces_at(wishes, price)
        self.assertEqual(told, known, (wishes, price))
        self.assertIs(type(told), list)
        self.assertTrue(all(type(part) is int for part in told), told)

    def test_known_pieces(self):
        for name, wishes, price, known in DEALT:
            with self.subTest(name):
                self.assert_pieces(wishes, price, known)

    def test_against_point_6(self):
        rule = Rule(30)
        for wishes in every_list(31):
            for price in some_of(turning_prices(wishes, TOP // 2), rule, 12):
                self.assert_pieces(wishes, price, plain_pieces_at(wishes, price))

    def test_every_small_list(self):
        for base in (0, TOP - 2):
            for wishes in small_lists(base):
                for price in range(base, base + 3):
                    self.assert_pieces(wishes, price, plain_pieces_at(wishes, price))

    def test_as_many_on_either_side_as_the_lesser_of_both(self):
        rule = Rule(33)
        for wishes in every_list(34):
            for price in some_of(turning_prices(wishes), rule, 12):
                told = pieces_at(wishes, price)
                lesser = min(plain_wanted(wishes, price), plain_offered(wishes, price))
                for one_side in ("buy", "sell"):
                    dealt = sum(part for (side, _, _), part in zip(wishes, told) if side == one_side)
                    self.assertEqual(dealt, lesser, (wishes, price))

    def test_no_price(self):
        for wishes in ([], FOUR, [("buy", 5, 3)], long_lists(35)[0]):
            for price in (*NO_PRICES, *NO_NUMBERS):
                for caught in (BadPrice, BidError, ValueError):
                    with self.assertRaises(caught):
                        pieces_at(wishes, price)

    def test_somewhat_more_than_200_wishes(self):
        wishes = [("buy", 9, 1)] * 110 + [("sell", 5, 1)] * 100
        self.assert_pieces(wishes, 7, [1] * 100 + [0] * 10 + [1] * 100)


class Gain(unittest.TestCase):
    def assert_gain(self, wish, price, pieces, known):
        told = gain(wish, price, pieces)
        self.assertEqual((type(told), told), (int, known), (wish, price, pieces))

    def test_a_buyer(self):
        for price, pieces, known in ((7, 3, 9), (10, 3, 0), (12, 3, -6), (0, 3, 30), (7, 0, 0), (7, 1, 3), (7, 5, 15)):
            self.assert_gain(("buy", 10, 5), price, pieces, known)

    def test_a_seller(self):
        for price, pieces, known in ((7, 3, -9), (10, 3, 0), (12, 3, 6), (0, 3, -30), (7, 0, 0), (7, 1, -3),
                                     (13, 5, 15)):
            self.assert_gain(("sell", 10, 5), price, pieces, known)

    def test_prices_and_pieces_below_nought_and_beyond_all_bounds(self):
        for price, pieces, known in ((-1, 3, 33), (-1, -3, -33), (12, -3, 6), (10, -3, 0), (TOP + 10, 2, -2 * TOP),
                                     (HUGE, 1, 10 - HUGE), (-HUGE, 1, 10 + HUGE), (9, HUGE, HUGE), (9, -HUGE, -HUGE),
                                     (HUGE + 10, HUGE, -HUGE * HUGE), (10, HUGE, 0)):
            self.assert_gain(("buy", 10, 5), price, pieces, known)
            self.assert_gain(("sell", 10, 5), price, pieces, -known)

    def test_at_the_ends(self):
        for wish, price, known in ((("buy", TOP, MOST), 0, TOP * MOST), (("buy", 0, MOST), TOP, -TOP * MOST),
                                   (("sell", TOP, MOST), 0, -TOP * MOST), (("sell", 0, MOST), TOP, TOP * MOST)):
            self.assert_gain(wish, price, MOST, known)

    def test_against_point_7(self):
        rule = Rule(36)
        for wishes in made_lists(37, 160):
            for wish in wishes:
                for price in (-HUGE, -1, 0, wish[1] - 1, wish[1], wish[1] + 1, TOP, HUGE, rule.between(0, TOP)):
                    for pieces in (-HUGE, -1, 0, 1, wish[2], wish[2] + 1, HUGE, rule.between(0, wish[2])):
                        self.assert_gain(wish, price, pieces, plain_gain(wish, price, pieces))


class Worth(unittest.TestCase):
    def assert_worth(self, wishes, pieces, known):
        told = worth(wishes, pieces)
        self.assertEqual((type(told), told), (int, known), (wishes, pieces))

    def test_known_worths(self):
        self.assert_worth([], [], 0)
        self.assert_worth([("buy", 9, 4)], [3], 27)
        self.assert_worth([("sell", 9, 4)], [3], -27)
        self.assert_worth(FOUR, [0, 0, 0, 0], 0)
        self.assert_worth(FOUR, [1, 0, 0, 0], 9)
        self.assert_worth(FOUR, [0, 1, 0, 0], -2)
        self.assert_worth(FOUR, FOUR_EVEN, 27 - 4 + 7 - 10)
        self.assert_worth(FOUR, [4, 3, 2, 3], 36 - 6 + 14 - 15)
        self.assert_worth([("buy", 2, 4), ("sell", 9, 4)], [4, 4], -28)

    def test_pieces_need_not_be_even(self):
        self.assert_worth(FOUR, [4, 0, 2, 1], 36 + 14 - 5)

    def test_the_greatest_and_the_least(self):
        self.assert_worth([("buy", TOP, MOST)] * 200, [MOST] * 200, 200 * TOP * MOST)
        self.assert_worth([("sell", TOP, MOST)] * 200, [MOST] * 200, -200 * TOP * MOST)

    def test_against_point_7(self):
        rule = Rule(38)
        for wishes in every_list(39):
            for pieces in (rule.pieces(wishes), rule.even_pieces(wishes), [wish[2] for wish in wishes]):
                self.assert_worth(wishes, pieces, plain_worth(wishes, pieces))


class Even(unittest.TestCase):
    def assert_even(self, wishes, pieces, known):
        self.assertIs(even(wishes, pieces), known, (wishes, pieces))

    def test_known_pieces(self):
        self.assert_even([], [], True)
        self.assert_even(FOUR, [0, 0, 0, 0], True)
        self.assert_even(FOUR, FOUR_EVEN, True)
        self.assert_even(FOUR, [4, 3, 0, 1], True)
        self.assert_even(FOUR, [4, 3, 1, 1], False)
        self.assert_even(FOUR, [4, 3, 0, 0], False)
        self.assert_even(FOUR, [1, 0, 0, 0], False)
        self.assert_even(FOUR, [0, 0, 0, 1], False)

    def test_one_side_alone(self):
        for side in ("buy", "sell"):
            wishes = [(side, 9, 4), (side, 8, 3)]
            self.assert_even(wishes, [0, 0], True)
            for pieces in ([1, 0], [0, 3], [2, 2]):
                self.assert_even(wishes, pieces, False)

    def test_limits_do_not_matter(self):
        self.assert_even([("buy", 2, 4), ("sell", 9, 4)], [4, 4], True)

    def test_one_piece_too_many(self):
        rule = Rule(40)
        for wishes in every_list(41):
            pieces = rule.even_pieces(wishes)
            self.assert_even(wishes, pieces, True)
            for at in some_of(range(len(wishes)), rule, 12):
                for other in (pieces[at] - 1, pieces[at] + 1):
                    if 0 <= other <= wishes[at][2]:
                        self.assert_even(wishes, pieces[:at] + [other] + pieces[at + 1:], False)

    def test_against_point_9(self):
        rule = Rule(42)
        for wishes in every_list(43):
            pieces = rule.pieces(wishes)
            self.assert_even(wishes, pieces, plain_even(wishes, pieces))


class Regrets(unittest.TestCase):
    def assert_regrets(self, wishes, price, pieces, known):
        told = regrets(wishes, price, pieces)
        self.assertEqual(told, known, (wishes, price, pieces))
        self.assertIs(type(told), list)
        self.assertTrue(all(type(number) is int for number in told), told)

    def test_a_buyer(self):
        wishes = [("buy", 10, 4)]
        for price in (0, 9):
            for part, known in ((0, [0]), (1, [0]), (3, [0]), (4, [])):
                self.assert_regrets(wishes, price, [part], known)
        for part in range(5):
            self.assert_regrets(wishes, 10, [part], [])
        for price in (11, TOP):
            for part, known in ((0, []), (1, [0]), (3, [0]), (4, [0])):
                self.assert_regrets(wishes, price, [part], known)

    def test_a_seller(self):
        wishes = [("sell", 10, 4)]
        for price in (11, TOP):
            for part, known in ((0, [0]), (1, [0]), (3, [0]), (4, [])):
                self.assert_regrets(wishes, price, [part], known)
        for part in range(5):
            self.assert_regrets(wishes, 10, [part], [])
        for price in (0, 9):
            for part, known in ((0, []), (1, [0]), (3, [0]), (4, [0])):
                self.assert_regrets(wishes, price, [part], known)

    def test_a_wish_of_one_piece(self):
        self.assert_regrets([("buy", 10, 1), ("sell", 10, 1)], 9, [0, 0], [0])
        self.assert_regrets([("buy", 10, 1), ("sell", 10, 1)], 9, [1, 1], [1])
        self.assert_regrets([("buy", 10, 1), ("sell", 10, 1)], 11, [0, 0], [1])
        self.assert_regrets([("buy", 10, 1), ("sell", 10, 1)], 11, [1, 1], [0])

    def test_no_wishes(self):
        for price in (0, 5, TOP):
            self.assert_regrets([], price, [], [])

    def test_the_numbers_rise(self):
        self.assert_regrets(FOUR, 6, [3, 3, 2, 2], [0, 3])
        self.assert_regrets(FOUR, 8, [4, 3, 2, 3], [2])
        self.assert_regrets(FOUR, 1, [0, 3, 0, 3], [0, 1, 2, 3])
        wishes = [(("buy", "sell")[at % 2], 5, 1) for at in range(200)]
        self.assert_regrets(wishes, 4, [1] * 200, list(range(1, 200, 2)))
        self.assert_regrets(wishes, 4, [0] * 200, list(range(0, 200, 2)))

    def test_the_pieces_need_not_be_even(self):
        self.assert_regrets(FOUR, 6, [4, 0, 2, 0], [1, 3])

    def test_against_point_8(self):
        rule = Rule(44)
        for wishes in every_list(45):
            for price in some_of(turning_prices(wishes), rule, 10):
                for pieces in (rule.pieces(wishes), pieces_at(wishes, price)):
                    self.assert_regrets(wishes, price, pieces, plain_regrets(wishes, price, pieces))

    def test_the_price_is_refused_before_the_pieces(self):
        for price in (*NO_PRICES, *NO_NUMBERS):
            for wishes, pieces in (([], []), (FOUR, FOUR_EVEN), ([], [0]), (FOUR, []), (FOUR, [-1, True, None, 9])):
                with self.assertRaises(BadPrice):
                    regrets(wishes, price, pieces)


class Pairs(unittest.TestCase):
    def assert_pairs(self, wishes, pieces, known):
        told = pairs(wishes, pieces)
        self.assertEqual(told, known, (wishes, pieces))
        self.assertIs(type(told), list)
        for pair in told:
            self.assertIs(type(pair), tuple)
            self.assertEqual([type(part) for part in pair], [int] * 3)

    def test_nothing_dealt(self):
        self.assert_pairs([], [], [])
        self.assert_pairs([("buy", 9, 4)], [0], [])
        self.assert_pairs([("sell", 9, 4)], [0], [])
        self.assert_pairs(FOUR, [0, 0, 0, 0], [])

    def test_one_with_one(self):
        self.assert_pairs([("buy", 9, 4), ("sell", 2, 3)], [3, 3], [(0, 1, 3)])
        self.assert_pairs([("sell", 2, 3), ("buy", 9, 4)], [1, 1], [(1, 0, 1)])

    def test_one_buyer_with_many_sellers(self):
        wishes = [("sell", 4, 2), ("sell", 3, 3), ("buy", 9, 9), ("sell", 2, 4)]
        self.assert_pairs(wishes, [2, 3, 9, 4], [(2, 0, 2), (2, 1, 3), (2, 3, 4)])
        self.assert_pairs(wishes, [1, 1, 3, 1], [(2, 0, 1), (2, 1, 1), (2, 3, 1)])

    def test_many_buyers_with_one_seller(self):
        wishes = [("buy", 4, 2), ("buy", 9, 3), ("sell", 2, 9), ("buy", 7, 4)]
        self.assert_pairs(wishes, [2, 3, 9, 4], [(0, 2, 2), (1, 2, 3), (3, 2, 4)])
        self.assert_pairs(wishes, [1, 1, 3, 1], [(0, 2, 1), (1, 2, 1), (3, 2, 1)])

    def test_nought_in_between(self):
        wishes = [("buy", 9, 3), ("sell", 2, 3), ("buy", 9, 3), ("sell", 2, 3), ("buy", 9, 3), ("sell", 2, 3)]
        self.assert_pairs(wishes, [0, 0, 2, 0, 0, 2], [(2, 5, 2)])
        self.assert_pairs(wishes, [1, 3, 0, 0, 3, 1], [(0, 1, 1), (4, 1, 2), (4, 5, 1)])
        self.assert_pairs(wishes, [3, 1, 0, 0, 1, 3], [(0, 1, 1), (0, 5, 2), (4, 5, 1)])

    def test_both_have_no_more_at_once(self):
        self.assert_pairs(FOUR, [2, 2, 1, 1], [(0, 1, 2), (2, 3, 1)])
        self.assert_pairs(FOUR, [3, 3, 2, 2], [(0, 1, 3), (2, 3, 2)])

    def test_limits_do_not_matter(self):
        wishes = [("buy", 2, 2), ("buy", 9, 2), ("sell", 9, 2), ("sell", 1, 2)]
        self.assert_pairs(wishes, [1, 2, 2, 1], [(0, 2, 1), (1, 2, 1), (1, 3, 1)])

    def test_against_point_9(self):
        rule = Rule(46)
        for wishes in every_list(47):
            for pieces in (rule.even_pieces(wishes), pieces_at(wishes, price_by(wishes, rule.between(0, TOP)))):
                self.assert_pairs(wishes, pieces, plain_pairs(wishes, pieces))

    def test_what_holds_of_all_pairs(self):
        rule = Rule(48)
        for wishes in every_list(49):
            pieces = rule.even_pieces(wishes)
            told = pairs(wishes, pieces)
            come = [0] * len(wishes)
            for buyer, seller, many in told:
                self.assertEqual((wishes[buyer][0], wishes[seller][0]), ("buy", "sell"))
                self.assertGreaterEqual(many, 1)
                come[buyer] += many
                come[seller] += many
            self.assertEqual(come, pieces)
            for one, other in zip(told, told[1:]):
                self.assertTrue(one[0] <= other[0] and one[1] <= other[1] and one[:2] != other[:2], told)

    def test_uneven(self):
        rule = Rule(50)
        rows = [(FOUR, [1, 0, 0, 0]), (FOUR, [0, 1, 0, 0]), (FOUR, [4, 3, 2, 2]), ([("buy", 9, 4)], [1]),
                ([("sell", 9, 4)], [4])]
        rows += [(wishes, rule.pieces(wishes)) for wishes in every_list(51)]
        seen = 0
        for wishes, pieces in rows:
            if not plain_even(wishes, pieces):
                seen += 1
                for caught in (Uneven, BidError, ValueError):
                    with self.assertRaises(caught):
                        pairs(wishes, pieces)
        self.assertGreater(seen, 200)


class PiecesRefused(unittest.TestCase):
    def assert_bad(self, wishes, pieces):
        for ask in (lambda: worth(wishes, pieces), lambda: even(wishes, pieces),
                    lambda: regrets(wishes, 5, pieces), lambda: pairs(wishes, pieces)):
            with self.assertRaises(BadPieces, msg=(wishes, pieces)):
                ask()

    def test_bad_rows_beside_good_pieces(self):
        wishes = FOUR + [("buy", 9, 1), ("sell", 2, MOST), ("sell", 2, 1)]
        for pieces in (FOUR_EVEN + [0, 0, 0], FOUR_EVEN + [1, 1, 0], [0] * 7, [wish[2] for wish in wishes]):
            for row in bad_rows(wishes, pieces):
                self.assert_bad(wishes, row)

    def test_bad_rows_of_one_wish(self):
        for wish in (("buy", 9, 1), ("sell", 9, 1), ("buy", 0, MOST), ("sell", TOP, 4)):
            for pieces in ([0], [1], [wish[2]]):
                for row in bad_rows([wish], pieces):
                    self.assert_bad([wish], row)

    def test_a_row_for_no_wishes(self):
        for row in bad_rows([], []):
            self.assert_bad([], row)

    def test_bad_rows_of_long_lists(self):
        wishes = long_lists(52)[0]
        pieces = Rule(53).pieces(wishes)
        for row in (pieces[:-1], pieces + [0], pieces[:-1] + [-1], pieces[:-1] + [wishes[-1][2] + 1], []):
            self.assert_bad(wishes, row)

    def test_pieces_are_told_by_a_list(self):
        for pieces in ((3, 2, 1, 2), {0: 3, 1: 2, 2: 1, 3: 2}, "3212", b"abcd", None, 4):
            self.assert_bad(FOUR, pieces)

    def test_the_bounds_themselves_are_good(self):
        for wishes in ([("buy", 9, 1), ("sell", 2, 1)], [("buy", 9, MOST), ("sell", 2, MOST)]):
            for pieces in ([0, 0], [1, 1], [wishes[0][2], wishes[1][2]]):
                self.assertEqual(worth(wishes, pieces), 7 * pieces[0])
                self.assertIs(even(wishes, pieces), True)
                self.assertEqual(regrets(wishes, 9, pieces), [] if pieces[1] == wishes[1][2] else [1])
                self.assertEqual(pairs(wishes, pieces), [(0, 1, pieces[0])] if pieces[0] else [])

    def test_bad_pieces_come_before_uneven_ones(self):
        for pieces in ([5, 0, 0, 0], [4, -1, 0, 0], [1, 0, 0], [4, 3, 2, 3, 1], [True, 0, 0, 0], [4, None, 0, 0],
                       [4, 0, 0, "3"], [0, 0, 0, 4]):
            with self.assertRaises(BadPieces):
                pairs(FOUR, pieces)

    def test_the_refusal_is_caught_as_any_refusal_and_as_value_error(self):
        for caught in (BidError, ValueError):
            with self.assertRaises(caught):
                worth(FOUR, [])


class Unchanged(unittest.TestCase):
    def test_the_lists_stay_as_they_were(self):
        rule = Rule(54)
        for wishes in every_list(55):
            for pieces in (rule.pieces(wishes), rule.even_pieces(wishes)):
                before = list(wishes), list(pieces)
                price = price_by(wishes, rule.between(0, TOP))
                pieces_at(wishes, price)
                worth(wishes, pieces)
                regrets(wishes, price, pieces)
                for wish in wishes:
                    gain(wish, price, 1)
                if even(wishes, pieces):
                    pairs(wishes, pieces)
                self.assertEqual((wishes, pieces), before)

    def test_a_refused_asking_leaves_all_as_it_was(self):
        wishes, price = list(FOUR), [5]
        for pieces in (*bad_rows(FOUR, FOUR_EVEN), [1, 0, 0, 0]):
            before = list(pieces)
            for ask in (lambda: pieces_at(wishes, price), lambda: regrets(wishes, price, pieces),
                        lambda: pairs(wishes, pieces)):
                with self.assertRaises(BidError):
                    ask()
            if pieces != [1, 0, 0, 0]:
                for ask in (lambda: worth(wishes, pieces), lambda: even(wishes, pieces),
                            lambda: regrets(wishes, 5, pieces)):
                    with self.assertRaises(BadPieces):
                        ask()
            self.assertEqual((wishes, price), (FOUR, [5]))
            self.assertEqual(len(pieces), len(before))
            for part, known in zip(pieces, before):
                self.assertIs(part, known)

    def test_every_list_that_is_told_is_a_new_one(self):
        pieces = list(FOUR_EVEN)
        for ask in (lambda: pieces_at(FOUR, 6), lambda: regrets(FOUR, 6, pieces), lambda: pairs(FOUR, pieces)):
            told = ask()
            known = list(told)
            for _ in range(3):
                told.append("more")
                told[0] = "other"
                again = ask()
                self.assertIsNot(again, told)
                self.assertEqual(again, known)
                told = again
        self.assertEqual(pieces, FOUR_EVEN)

    def test_the_same_asking_gets_the_same_answer(self):
        rule = Rule(56)
        for wishes in made_lists(57, 64):
            pieces = rule.even_pieces(wishes)
            told = [(pieces_at(wishes, 5), worth(wishes, pieces), regrets(wishes, 5, pieces), pairs(wishes, pieces))
                    for _ in range(3)]
            self.assertEqual(told, [told[0]] * 3)


if __name__ == "__main__":
    unittest.main()
