"""Points 1, 4 and 5 and bidclear/prices.py: the prices that clear."""

import unittest

from bidclear import prices as module
from bidclear.errors import BadPrice, BidError
from bidclear.prices import clears, highest, lowest, price_by
from bidclear.wishes import TOP
from tests.plain import plain_clearing, plain_clears, plain_nearest, turning_prices
from tests.samples import KNOWN, NO_NUMBERS, NO_PRICES, Rule, every_list, long_lists, made_lists, small_lists


def asked_olds(wishes, rule):
    """The ends, the middle, prices around the first and the last that clears, and one of the rule."""
    clearing = plain_clearing(wishes)
    found = {0, TOP // 2, TOP, rule.between(0, TOP), (clearing[0] + clearing[-1]) // 2}
    for price in (clearing[0], clearing[-1]):
        found |= {price - 2, price - 1, price, price + 1, price + 2}
    return sorted(price for price in found if 0 <= price <= TOP)


class Interface(unittest.TestCase):
    def test_the_functions_are_defined_in_their_file(self):
        for name in ("clears", "lowest", "highest", "price_by"):
            self.assertEqual(getattr(module, name).__module__, "bidclear.prices")

    def test_the_arguments_have_their_names(self):
        wishes = [("buy", 10, 5), ("sell", 4, 5)]
        self.assertIs(clears(wishes=wishes, price=4), True)
        self.assertEqual(lowest(wishes=wishes), 4)
        self.assertEqual(highest(wishes=wishes), 10)
        self.assertEqual(price_by(wishes=wishes, old=20), 10)


class Clears(unittest.TestCase):
    def assert_clears(self, wishes, price, known):
        self.assertIs(clears(wishes, price), known, (wishes, price))

    def test_known_lists(self):
        for name, wishes, least, greatest in KNOWN:
            with self.subTest(name):
                for price in turning_prices(wishes, least, greatest, (least + greatest) // 2):
                    self.assert_clears(wishes, price, least <= price <= greatest)

    def test_no_wishes_at_all(self):
        for price in (0, 1, 5, TOP // 2, TOP - 1, TOP):
            self.assert_clears([], price, True)

    def test_each_of_the_two_things_alone_is_not_enough(self):
        # At 9 nobody is left who would pay more, at 4 nobody who would take less.
        wishes = [("buy", 4, 1), ("buy", 9, 1), ("sell", 4, 1), ("sell", 9, 1), ("buy", 6, 3), ("sell", 7, 3)]
        for price, known in ((4, False), (5, False), (6, True), (7, True), (8, False), (9, False)):
            self.assert_clears(wishes, price, known)

    def test_against_point_4(self):
        for wishes in every_list(21):
            for price in turning_prices(wishes, TOP // 2):
                self.assert_clears(wishes, price, plain_clears(wishes, price))

    def test_every_price_over_every_small_list(self):
        for base in (0, 7, TOP - 2):
            for wishes in small_lists(base):
                for price in range(max(base - 2, 0), min(base + 5, TOP + 1)):
                    self.assert_clears(wishes, price, plain_clears(wishes, price))


class LowestAndHighest(unittest.TestCase):
    def assert_ends(self, wishes, least, greatest):
        for told, known in ((lowest(wishes), least), (highest(wishes), greatest)):
            self.assertEqual((type(told), told), (int, known), wishes)

    def test_known_lists(self):
        for name, wishes, least, greatest in KNOWN:
            with self.subTest(name):
                self.assert_ends(wishes, least, greatest)

    def test_both_ends_clear_and_nothing_beyond(self):
        for wishes in every_list(21):
            low, high = lowest(wishes), highest(wishes)
            self.assertTrue(0 <= low <= high <= TOP, wishes)
            for price in (low, high):
                self.assertTrue(plain_clears(wishes, price) and clears(wishes, price), (wishes, price))
            for price in (low - 1, high + 1):
                if 0 <= price <= TOP:
                    self.assertFalse(plain_clears(wishes, price) or clears(wishes, price), (wishes, price))

    def test_every_price_between_clears(self):
        rule = Rule(23)
        for wishes in every_list(21):
            low, high = lowest(wishes), highest(wishes)
            between = [price for price in turning_prices(wishes) if low <= price <= high]
            for price in (*between, (low + high) // 2, rule.between(low, high), rule.between(low, high)):
                self.assertTrue(plain_clears(wishes, price) and clears(wishes, price), (wishes, price))

    def test_against_point_4(self):
        for wishes in every_list(21):
            clearing = plain_clearing(wishes)
            self.assert_ends(wishes, clearing[0], clearing[-1])

    def test_every_small_list(self):
        for base in (0, 7, TOP - 2):
            for wishes in small_lists(base):
                clearing = plain_clearing(wishes)
                self.assert_ends(wishes, clearing[0], clearing[-1])


class PriceBy(unittest.TestCase):
    def assert_price(self, wishes, old, known):
        told = price_by(wishes, old)
        self.assertEqual((type(told), told), (int, known), (wishes, old))

    def test_known_lists(self):
        for name, wishes, least, greatest in KNOWN:
            with self.subTest(name):
                for old in turning_prices(wishes, TOP // 2):
                    known = old
                    if old < least:
                        known = least
                    if old > greatest:
                        known = greatest
                    self.assert_price(wishes, old, known)

    def test_an_old_price_that_clears_stays(self):
        wishes = [("buy", 10, 5), ("sell", 4, 5)]
        for old in range(4, 11):
            self.assert_price(wishes, old, old)

    def test_an_old_price_below_or_above_all_that_clear(self):
        wishes = [("buy", 10, 5), ("sell", 4, 5)]
        for old, known in ((0, 4), (3, 4), (11, 10), (TOP - 1, 10), (TOP, 10)):
            self.assert_price(wishes, old, known)

    def test_against_the_nearest_one(self):
        rule = Rule(24)
        for wishes in every_list(21):
            for old in asked_olds(wishes, rule):
                self.assert_price(wishes, old, plain_nearest(wishes, old))

    def test_every_small_list(self):
        for base in (0, TOP - 2):
            for wishes in small_lists(base):
                for old in (0, base + 1, TOP):
                    self.assert_price(wishes, old, plain_nearest(wishes, old))

    def test_a_price_by_itself_stays(self):
        rule = Rule(25)
        for wishes in every_list(21):
            price = price_by(wishes, rule.between(0, TOP))
            self.assert_price(wishes, price, price)

    def test_no_price(self):
        for wishes in ([], [("buy", 10, 5), ("sell", 4, 5)], *long_lists(26)[:2]):
            for old in (*NO_PRICES, *NO_NUMBERS):
                for caught in (BadPrice, BidError, ValueError):
                    with self.assertRaises(caught):
                        price_by(wishes, old)


class Unchanged(unittest.TestCase):
    def test_the_lists_stay_as_they_were(self):
        for wishes in every_list(21):
            before = list(wishes)
            for price in (0, 3, TOP):
                clears(wishes, price)
                price_by(wishes, price)
            lowest(wishes)
            highest(wishes)
            self.assertEqual(wishes, before)

    def test_a_refused_asking_leaves_all_as_it_was(self):
        olds = ([5], {5: 5}, -1, TOP + 1, True, None)
        for wishes in made_lists(27, 64) + long_lists(28):
            before = list(wishes)
            for old in olds:
                with self.assertRaises(BadPrice):
                    price_by(wishes, old)
            self.assertEqual(wishes, before)
        self.assertEqual(olds, ([5], {5: 5}, -1, TOP + 1, True, None))

    def test_the_same_asking_gets_the_same_answer(self):
        for wishes in made_lists(29, 64):
            told = [(lowest(wishes), highest(wishes), price_by(wishes, 7)) for _ in range(3)]
            self.assertEqual(told, [told[0]] * 3)


if __name__ == "__main__":
    unittest.main()
