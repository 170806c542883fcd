"""Points 1 to 3 and bidclear/wishes.py: wishes, and what they come to at a price."""

import unittest
from collections import UserString

from bidclear import wishes as module
from bidclear.errors import BadWish, BidError
from bidclear.wishes import MOST, TOP, checked, offered, wanted
from tests.plain import plain_offered, plain_wanted, turning_prices
from tests.samples import HUGE, KNOWN, NO_NUMBERS, long_lists, made_lists


class Stubborn:
    """A thing that refuses whatever it is asked."""

    def refuse(self, *told):
        raise RuntimeError("asked")

    __eq__ = __ne__ = __lt__ = __le__ = __gt__ = __ge__ = refuse
    __len__ = __iter__ = __getitem__ = __contains__ = __bool__ = refuse
    __hash__ = __int__ = __index__ = __str__ = __repr__ = __format__ = refuse
    __class__ = property(refuse)


class StubbornTuple(tuple):
    __len__ = __iter__ = __getitem__ = __eq__ = __repr__ = Stubborn.refuse
    __hash__ = tuple.__hash__


class StubbornNumber(int):
    __eq__ = __lt__ = __le__ = __gt__ = __ge__ = __repr__ = Stubborn.refuse
    __hash__ = int.__hash__


class StubbornText(str):
    __eq__ = __hash__ = __repr__ = Stubborn.refuse


class Agreeable:
    """A thing that says that it is equal to everything, and in every order."""

    def agree(self, *told):
        return True

    __eq__ = __lt__ = __le__ = __gt__ = __ge__ = agree
    __hash__ = None


class Interface(unittest.TestCase):
    def test_the_numbers(self):
        self.assertEqual((type(TOP), TOP), (int, 1000000000))
        self.assertEqual((type(MOST), MOST), (int, 1000000))

    def test_the_functions_are_defined_in_their_file(self):
        for name in ("checked", "wanted", "offered"):
            self.assertEqual(getattr(module, name).__module__, "bidclear.wishes")

    def test_the_arguments_have_their_names(self):
        wish = ("buy", 5, 2)
        self.assertIs(checked(thing=wish), wish)
        self.assertEqual(wanted(wishes=[wish], price=5), 2)
        self.assertEqual(offered(wishes=[wish], price=5), 0)


class Checked(unittest.TestCase):
    def assert_bad(self, thing):
        with self.assertRaises(BadWish):
            checked(thing)

    def test_a_good_wish_comes_back_itself(self):
        for side in ("buy", "sell"):
            for limit in (0, 1, 5, TOP - 1, TOP):
                for amount in (1, 2, 5, MOST - 1, MOST):
                    wish = (side, limit, amount)
                    self.assertIs(checked(wish), wish)
                    self.assertEqual(wish, (side, limit, amount))

    def test_a_side_that_was_put_together_is_good(self):
        wish = ("".join(["b", "u", "y"]), 5, 2)
        self.assertIs(checked(wish), wish)

    def test_no_tuple(self):
        for thing in (["buy", 5, 2], [], "buy", "", "buy 2 at 5", b"buy", None, 0, 5, -1, True, False, 5.0,
                      {"buy": 5}, {"buy", 5, 2}, {"buy": 1, 5: 1, 2: 1}, range(3), tuple, checked, object(), ...):
            self.assert_bad(thing)

    def test_tuples_of_another_length(self):
        for thing in ((), ("buy",), ("buy", 5), ("buy", 5, 2, 1), ("buy", 5, 2, None), (("buy", 5, 2),),
                      ("buy", 5) * 100):
            self.assert_bad(thing)

    def test_other_sides(self):
        for side in ("Buy", "BUY", "bu", "buys", "uy", "buy ", " buy", "Sell", "sel", "sells", "buysell", "", "\0",
                     None, 0, 1, True, False, b"buy", ["buy"], [], ("buy",), {}, {"buy": 1}, {"buy"}, 5.0, str,
                     UserString("buy")):
            self.assert_bad((side, 5, 2))

    def test_limits_beyond_their_bounds(self):
        for side in ("buy", "sell"):
            for limit in (-1, TOP + 1, -TOP, 2 * TOP, HUGE, -HUGE, 10 ** 5000, -10 ** 5000):
                self.assert_bad((side, limit, 2))

    def test_limits_that_are_no_numbers(self):
        for side in ("buy", "sell"):
            for limit in NO_NUMBERS:
                self.assert_bad((side, limit, 2))

    def test_amounts_beyond_their_bounds(self):
        for side in ("buy", "sell"):
            for amount in (0, -1, MOST + 1, TOP, -MOST, HUGE, -HUGE, 10 ** 5000, -10 ** 5000):
                self.assert_bad((side, 5, amount))

    def test_amounts_that_are_no_numbers(self):
        for side in ("buy", "sell"):
            for amount in NO_NUMBERS:
                self.assert_bad((side, 5, amount))

    def test_parts_in_another_order(self):
        for thing in (("buy", MOST + 1, 0), (5, "buy", 2), (5, 2, "buy"), ("buy", 2, "sell"), (None, None, None)):
            self.assert_bad(thing)

    def test_no_other_error_comes_out_of_things_that_refuse(self):
        good = ("buy", 5, 2)
        for foreign in (Stubborn(), StubbornTuple(good), StubbornNumber(1), StubbornText("buy"), Agreeable()):
            self.assert_bad(foreign)
            for at in range(3):
                self.assert_bad(good[:at] + (foreign,) + good[at + 1:])

    def test_the_refusal_is_caught_as_any_refusal_and_as_value_error(self):
        for caught in (BidError, ValueError):
            with self.assertRaises(caught):
                checked(("buy", -1, 2))

    def test_a_refused_thing_stays_as_it_was(self):
        row = ["buy", 5, 2]
        self.assert_bad(row)
        self.assertEqual(row, ["buy", 5, 2])
        for wish in ((row, 5, 2), ("buy", row, 2), ("buy", 5, row)):
            self.assert_bad(wish)
            self.assertEqual(row, ["buy", 5, 2])


class WantedAndOffered(unittest.TestCase):
    def assert_sums(self, wishes, price, pieces_wanted, pieces_offered):
        for told, known in ((wanted(wishes, price), pieces_wanted), (offered(wishes, price), pieces_offered)):
            self.assertEqual((type(told), told), (int, known), (wishes, price))

    def assert_plain(self, wishes, price):
        self.assert_sums(wishes, price, plain_wanted(wishes, price), plain_offered(wishes, price))

    def test_no_wishes(self):
        for price in (-HUGE, -1, 0, 1, TOP, TOP + 1, HUGE):
            self.assert_sums([], price, 0, 0)

    def test_one_buyer(self):
        wishes = [("buy", 5, 3)]
        for price, told in ((-HUGE, 3), (-1, 3), (0, 3), (4, 3), (5, 3), (6, 0), (TOP, 0), (TOP + 1, 0), (HUGE, 0)):
            self.assert_sums(wishes, price, told, 0)

    def test_one_seller(self):
        wishes = [("sell", 5, 3)]
        for price, told in ((-HUGE, 0), (-1, 0), (0, 0), (4, 0), (5, 3), (6, 3), (TOP, 3), (TOP + 1, 3), (HUGE, 3)):
            self.assert_sums(wishes, price, 0, told)

    def test_several_at_one_limit(self):
        wishes = [("buy", 5, 3), ("sell", 5, 10), ("buy", 5, 4), ("sell", 5, 20), ("buy", 5, 3)]
        self.assert_sums(wishes, 4, 10, 0)
        self.assert_sums(wishes, 5, 10, 30)
        self.assert_sums(wishes, 6, 0, 30)

    def test_both_sides_over_several_limits(self):
        wishes = [("buy", 10, 5), ("sell", 4, 3), ("buy", 7, 2), ("sell", 8, 4), ("buy", 4, 1)]
        told = ((3, 8, 0), (4, 8, 3), (5, 7, 3), (7, 7, 3), (8, 5, 7), (10, 5, 7), (11, 0, 7))
        for price, pieces_wanted, pieces_offered in told:
            self.assert_sums(wishes, price, pieces_wanted, pieces_offered)

    def test_at_the_ends(self):
        wishes = [("buy", 0, 1), ("sell", 0, 2), ("buy", TOP, 4), ("sell", TOP, 8)]
        told = ((-1, 5, 0), (0, 5, 2), (1, 4, 2), (TOP - 1, 4, 2), (TOP, 4, 10), (TOP + 1, 0, 10))
        for price, pieces_wanted, pieces_offered in told:
            self.assert_sums(wishes, price, pieces_wanted, pieces_offered)

    def test_against_plain_sums(self):
        lists = [known[1] for known in KNOWN] + made_lists(11, 320) + long_lists(12)
        for wishes in lists:
            for price in (-HUGE, -1, *turning_prices(wishes), TOP + 1, HUGE):
                self.assert_plain(wishes, price)

    def test_the_lists_stay_as_they_were(self):
        for wishes in made_lists(13, 64) + long_lists(14):
            before = list(wishes)
            for price in (-1, 0, 3, TOP, HUGE):
                wanted(wishes, price)
                offered(wishes, price)
            self.assertEqual(wishes, before)


if __name__ == "__main__":
    unittest.main()
