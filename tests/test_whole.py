"""What holds over the whole program: no better price, no better pieces, and books that come out even."""

import time
import unittest
from itertools import product

from bidclear.book import Book
from bidclear.deals import even, gain, pairs, pieces_at, regrets, worth
from bidclear.prices import clears, highest, lowest, price_by
from bidclear.wishes import TOP, offered, wanted
from tests.plain import (
    plain_best_worth, plain_clearing, plain_nearest, plain_pieces_at, plain_regrets, plain_worth, turning_prices,
)
from tests.samples import Rule, every_list, long_lists, small_lists, some_of


def dealt(wishes, pieces):
    """How many pieces are dealt: those of all buyers."""
    return sum(part for (side, _, _), part in zip(wishes, pieces) if side == "buy")


def olds_of(wishes, rule):
    """Old prices: the ends, the outermost that clear, and one of the rule."""
    clearing = plain_clearing(wishes)
    return 0, TOP, clearing[0], clearing[-1], rule.between(0, TOP)


class AtThePriceByAnOldOne(unittest.TestCase):
    def test_the_pieces_are_even_and_nobody_regrets_them(self):
        rule = Rule(80)
        for wishes in every_list(81):
            for old in olds_of(wishes, rule):
                price = price_by(wishes, old)
                pieces = pieces_at(wishes, price)
                self.assertEqual((price, pieces), (plain_nearest(wishes, old), plain_pieces_at(wishes, price)))
                self.assertIs(even(wishes, pieces), True)
                self.assertEqual(regrets(wishes, price, pieces), [])
                self.assertEqual(plain_regrets(wishes, price, pieces), [])

    def test_somebody_regrets_the_pieces_at_a_price_that_does_not_clear(self):
        rule = Rule(82)
        for wishes in every_list(83):
            for price in some_of(turning_prices(wishes), rule, 12):
                told = regrets(wishes, price, pieces_at(wishes, price))
                self.assertEqual(told == [], clears(wishes, price), (wishes, price))

    def test_at_no_other_price_are_more_pieces_dealt(self):
        rule = Rule(84)
        for wishes in every_list(85):
            price = price_by(wishes, rule.between(0, TOP))
            most = dealt(wishes, pieces_at(wishes, price))
            for other in some_of(turning_prices(wishes), rule, 40):
                self.assertLessEqual(dealt(wishes, pieces_at(wishes, other)), most, (wishes, price, other))

    def test_no_even_pieces_have_a_greater_worth(self):
        rule = Rule(86)
        for wishes in every_list(87):
            for old in olds_of(wishes, rule):
                told = worth(wishes, pieces_at(wishes, price_by(wishes, old)))
                self.assertEqual(told, plain_best_worth(wishes), wishes)
            for _ in range(5):
                other = rule.even_pieces(wishes)
                self.assertIs(even(wishes, other), True)
                self.assertLessEqual(worth(wishes, other), told, (wishes, other))

    def test_no_even_pieces_of_small_lists_have_a_greater_worth(self):
        for wishes in small_lists(4):
            best = worth(wishes, pieces_at(wishes, price_by(wishes, 5)))
            for row in product(*[range(amount + 1) for _, _, amount in wishes]):
                if even(wishes, list(row)):
                    self.assertLessEqual(plain_worth(wishes, row), best, (wishes, row))

    def test_the_gains_of_all_come_to_the_worth(self):
        rule = Rule(88)
        for wishes in every_list(89, 100):
            pieces = rule.even_pieces(wishes)
            price = rule.between(0, TOP)
            total = sum(gain(wish, price, part) for wish, part in zip(wishes, pieces))
            self.assertEqual(total, worth(wishes, pieces))

    def test_what_is_left_of_the_wishes_deals_nothing_at_the_same_price(self):
        rule = Rule(90)
        for wishes in every_list(91):
            price = price_by(wishes, rule.between(0, TOP))
            left = [(side, limit, amount - part)
                    for (side, limit, amount), part in zip(wishes, pieces_at(wishes, price)) if amount > part]
            self.assertEqual(price_by(left, price), price)
            self.assertEqual(pieces_at(left, price), [0] * len(left))


class RowsOfDeeds(unittest.TestCase):
    """A book is told some deeds, and of each wish it is kept what came of it."""

    def setUp(self):
        self.rule = Rule(92)

    def test_what_holds_behind_each_deed(self):
        for least, most, amount in ((0, 6, 4), (TOP - 6, TOP, 9), (100, 130, 1000000), (0, TOP, 20)) * 25:
            self.book = Book(self.rule.between(0, TOP))
            self.wishes, self.taken, self.come, self.money = [], [], [], []
            for _ in range(self.rule.between(10, 60)):
                self.do_one_deed(least, most, amount)
                self.assert_it_comes_out()

    def do_one_deed(self, least, most, amount):
        deed = self.rule.below(8)
        if deed < 5:
            self.add_one(self.rule.wish(least, most, amount))
        elif deed < 7:
            self.ring_twice()
        elif self.book.standing():
            standing = self.book.standing()
            number = standing[self.rule.below(len(standing))][0]
            self.taken[number] += self.book.drop(number)

    def add_one(self, wish):
        self.assertEqual(self.book.add(wish), len(self.wishes))
        self.wishes.append(wish)
        for row in (self.taken, self.come, self.money):
            row.append(0)

    def ring_twice(self):
        told = self.book.ring()
        price = self.book.price
        for buyer, seller, many in told:
            self.assertGreaterEqual(many, 1)
            self.assertTrue(self.wishes[seller][1] <= price <= self.wishes[buyer][1])
            for number in (buyer, seller):
                self.come[number] += many
                self.money[number] += many * price
        buyers = [limit for _, (side, limit, _) in self.book.standing() if side == "buy"]
        sellers = [limit for _, (side, limit, _) in self.book.standing() if side == "sell"]
        if buyers and sellers:
            self.assertLess(max(buyers), min(sellers))
        self.assertEqual(self.book.ring(), [])
        self.assertEqual(self.book.price, price)

    def assert_it_comes_out(self):
        sums = {"buy": 0, "sell": 0}
        for number, (side, _, amount) in enumerate(self.wishes):
            self.assertEqual(self.book.left(number) + self.taken[number] + self.come[number], amount)
            self.assertEqual(self.book.paid(number), self.money[number])
            sums[side] += self.book.paid(number)
        self.assertEqual(sums["buy"], sums["sell"])


class AtOnce(unittest.TestCase):
    def assert_at_once(self, start, many):
        # Ten times and more what a slow machine takes for it.
        self.assertLess(time.monotonic() - start, 0.5 * many)

    def test_lists_of_200_wishes(self):
        lists = long_lists(93)
        start = time.monotonic()
        for wishes in lists:
            self.assertEqual(len(wishes), 200)
            price = price_by(wishes, TOP // 3)
            pieces = pieces_at(wishes, price)
            told = pairs(wishes, pieces)
            self.assertEqual(sum(many for _, _, many in told), min(wanted(wishes, price), offered(wishes, price)))
            self.assertEqual(regrets(wishes, price, pieces), [])
            self.assertTrue(lowest(wishes) <= price <= highest(wishes))
            self.assertGreaterEqual(worth(wishes, pieces), 0)
        self.assert_at_once(start, len(lists))

    def test_books_with_200_wishes(self):
        lists = long_lists(94)
        start = time.monotonic()
        for wishes in lists:
            book = Book(TOP // 3)
            for number, wish in enumerate(wishes):
                self.assertEqual(book.add(wish), number)
            told = book.ring()
            self.assertEqual(told, pairs(wishes, pieces_at(wishes, price_by(wishes, TOP // 3))))
            self.assertEqual(book.ring(), [])
            for number, (_, _, left) in book.standing():
                self.assertEqual(book.drop(number), left)
            self.assertEqual(book.standing(), [])
        self.assert_at_once(start, len(lists))


if __name__ == "__main__":
    unittest.main()
