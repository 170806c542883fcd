"""Points 1 and 10 to 12 and bidclear/book.py: a book, in which wishes stand and deal."""

import unittest

from bidclear import book as module
from bidclear.book import Book
from bidclear.errors import BadPrice, BadWish, BidError, NoSuch
from bidclear.wishes import MOST, TOP
from tests.plain import PlainBook
from tests.samples import HUGE, NO_NUMBERS, NO_PRICES, Rule

NO_WISHES = (
    ["buy", 5, 2], (), ("buy", 5), ("buy", 5, 2, 1), ("Buy", 5, 2), (b"buy", 5, 2), ("buy", -1, 2), ("buy", TOP + 1, 2),
    ("sell", 5, 0), ("sell", 5, -1), ("sell", 5, MOST + 1), ("sell", HUGE, 1), ("buy", True, 2), ("buy", 5, True),
    ("sell", None, 2), ("sell", 5, None), ("buy", "5", 2), ("buy", 5, "2"), ("buy", [5], 2), ("buy", 5, {}),
    "buy 2 at 5", None, 5, True, {}, [],
)

FOUR = (("buy", 9, 4), ("sell", 2, 3), ("buy", 7, 2), ("sell", 5, 3))


def book_of(old, *wishes):
    """A book with wishes in it."""
    book = Book(old)
    for wish in wishes:
        book.add(wish)
    return book


def all_told(book, many):
    """What a book with so many wishes tells without being changed."""
    return book.price, book.standing(), [(book.left(number), book.paid(number)) for number in range(many)]


class Interface(unittest.TestCase):
    def test_each_method_is_defined_in_the_class_itself(self):
        self.assertEqual(Book.__module__, "bidclear.book")
        self.assertIs(module.Book, Book)
        for name in ("add", "left", "paid", "drop", "standing", "ring"):
            self.assertIn(name, vars(Book))

    def test_the_arguments_have_their_names(self):
        book = Book(old=5)
        self.assertEqual(book.price, 5)
        self.assertEqual(book.add(wish=("buy", 9, 4)), 0)
        self.assertEqual(book.left(number=0), 4)
        self.assertEqual(book.paid(number=0), 0)
        self.assertEqual(book.drop(number=0), 4)


class Made(unittest.TestCase):
    def test_the_price_is_at_first_the_one_that_it_is_made_with(self):
        for old in (0, 1, 5, TOP // 2, TOP - 1, TOP):
            book = Book(old)
            self.assertEqual((type(book.price), book.price), (int, old))
            self.assertEqual(book.standing(), [])

    def test_no_price(self):
        for old in (*NO_PRICES, *NO_NUMBERS):
            for caught in (BadPrice, BidError, ValueError):
                with self.assertRaises(caught):
                    Book(old)


class Add(unittest.TestCase):
    def test_the_numbers_go_on_from_nought(self):
        book = Book(5)
        for known in range(200):
            told = book.add(FOUR[known % 4])
            self.assertEqual((type(told), told), (int, known))

    def test_a_wish_that_comes_stands_with_its_whole_amount(self):
        book = Book(5)
        for number, wish in enumerate(FOUR):
            book.add(wish)
            self.assertEqual(book.left(number), wish[2])
            self.assertEqual(book.paid(number), 0)
            self.assertEqual(book.standing(), list(enumerate(FOUR))[:number + 1])
        self.assertEqual(book.price, 5)

    def test_a_wish_that_comes_deals_nothing_before_the_bell(self):
        book = book_of(5, ("buy", TOP, MOST), ("sell", 0, MOST))
        self.assertEqual(all_told(book, 2),
                         (5, [(0, ("buy", TOP, MOST)), (1, ("sell", 0, MOST))], [(MOST, 0), (MOST, 0)]))

    def test_the_bounds_themselves_are_good(self):
        book = Book(5)
        for number, wish in enumerate((side, limit, amount) for side in ("buy", "sell")
                                      for limit in (0, 1, TOP - 1, TOP) for amount in (1, 2, MOST - 1, MOST)):
            self.assertEqual(book.add(wish), number)
            self.assertEqual(book.standing()[-1], (number, wish))

    def test_no_wish(self):
        book = Book(5)
        for number, thing in enumerate(NO_WISHES):
            before = all_told(book, number)
            for caught in (BadWish, BidError, ValueError):
                with self.assertRaises(caught):
                    book.add(thing)
            self.assertEqual(all_told(book, number), before)
            with self.assertRaises(NoSuch):
                book.left(number)
            self.assertEqual(book.add(("buy", 9, 4)), number)

    def test_a_refused_thing_stays_as_it_was(self):
        row = ["buy", 5, 2]
        for thing in (row, (row, 5, 2), ("buy", row, 2), ("buy", 5, row)):
            with self.assertRaises(BadWish):
                Book(5).add(thing)
            self.assertEqual(row, ["buy", 5, 2])

    def test_numbers_go_on_behind_wishes_that_stand_no_more(self):
        book = book_of(5, ("buy", 9, 1), ("sell", 2, 1), ("buy", 1, 1))
        self.assertEqual(len(book.ring()), 1)
        book.drop(2)
        self.assertEqual(book.standing(), [])
        self.assertEqual(book.add(("buy", 1, 1)), 3)

    def test_somewhat_more_than_200_wishes(self):
        book = Book(5)
        for number in range(210):
            self.assertEqual(book.add(FOUR[number % 2]), number)
        self.assertEqual(len(book.standing()), 210)
        book.ring()


class NoSuchNumber(unittest.TestCase):
    def assert_no_such(self, book, number):
        for ask in (book.left, book.paid, book.drop):
            for caught in (NoSuch, BidError, ValueError):
                with self.assertRaises(caught):
                    ask(number)

    def test_numbers_that_no_wish_has_got(self):
        for wishes in ((), FOUR[:1], FOUR, FOUR * 50):
            book = book_of(5, *wishes)
            before = all_told(book, len(wishes))
            for number in (-1, -2, -len(wishes), -len(wishes) - 1, len(wishes), len(wishes) + 1, 200, TOP, HUGE, -HUGE):
                self.assert_no_such(book, number)
            self.assertEqual(all_told(book, len(wishes)), before)

    def test_what_is_no_number(self):
        for wishes in ((), FOUR):
            book = book_of(5, *wishes)
            before = all_told(book, len(wishes))
            for number in (*NO_NUMBERS, "0", "1", (0,), [0], {0: 0}, 0.0, 1.0):
                self.assert_no_such(book, number)
            self.assertEqual(all_told(book, len(wishes)), before)

    def test_the_numbers_of_another_book(self):
        one, other = book_of(5, *FOUR), book_of(5, FOUR[0])
        self.assertEqual(one.left(3), 3)
        self.assert_no_such(other, 3)


class Drop(unittest.TestCase):
    def assert_no_more(self, book, number, many):
        before = all_told(book, many)
        for caught in (NoSuch, BidError, ValueError):
            with self.assertRaises(caught):
                book.drop(number)
        self.assertEqual(all_told(book, many), before)

    def test_all_of_a_wish_is_taken_back(self):
        book = book_of(5, *FOUR)
        told = book.drop(2)
        self.assertEqual((type(told), told), (int, 2))
        self.assertEqual([book.left(number) for number in range(4)], [4, 3, 0, 3])
        self.assertEqual(book.paid(2), 0)
        self.assertEqual(book.standing(), [(0, FOUR[0]), (1, FOUR[1]), (3, FOUR[3])])
        self.assertEqual(book.price, 5)

    def test_twice(self):
        book = book_of(5, *FOUR)
        for number in (0, 3):
            book.drop(number)
            self.assert_no_more(book, number, 4)
            self.assert_no_more(book, number, 4)

    def test_what_was_dealt_wholly(self):
        book = book_of(5, ("buy", 9, 3), ("sell", 2, 3))
        self.assertEqual(book.ring(), [(0, 1, 3)])
        for number in (0, 1):
            self.assert_no_more(book, number, 2)
            self.assertEqual(book.left(number), 0)
            self.assertEqual(book.paid(number), 15)

    def test_what_was_dealt_in_part(self):
        book = book_of(9, ("buy", 9, 5), ("sell", 2, 3))
        self.assertEqual(book.ring(), [(0, 1, 3)])
        self.assertEqual(book.drop(0), 2)
        self.assertEqual((book.left(0), book.paid(0)), (0, 27))
        self.assertEqual(book.standing(), [])
        self.assert_no_more(book, 0, 2)
        self.assert_no_more(book, 1, 2)

    def test_what_was_taken_back_deals_no_more(self):
        book = book_of(5, ("buy", 9, 3), ("sell", 2, 3), ("buy", 9, 3))
        book.drop(0)
        self.assertEqual(book.ring(), [(2, 1, 3)])
        self.assertEqual([book.paid(number) for number in range(3)], [0, 15, 15])

    def test_a_book_of_wishes_taken_back_deals_nothing(self):
        book = book_of(5, ("buy", 9, 3), ("sell", 7, 3))
        book.drop(1)
        book.drop(0)
        self.assertEqual(book.ring(), [])
        self.assertEqual(book.price, 5)


class Ring(unittest.TestCase):
    def test_an_empty_book(self):
        for old in (0, 5, TOP):
            book = Book(old)
            self.assertEqual(book.ring(), [])
            self.assertEqual(book.price, old)

    def test_a_price_that_clears_stays(self):
        for old in (2, 5, 9):
            book = book_of(old, ("buy", 9, 3), ("sell", 2, 3))
            self.assertEqual(book.ring(), [(0, 1, 3)])
            self.assertEqual(all_told(book, 2), (old, [], [(0, 3 * old), (0, 3 * old)]))

    def test_the_price_goes_to_the_nearest_one_that_clears(self):
        for old, price in ((0, 2), (1, 2), (10, 9), (TOP, 9)):
            book = book_of(old, ("buy", 9, 3), ("sell", 2, 3))
            self.assertEqual(book.ring(), [(0, 1, 3)])
            self.assertEqual(all_told(book, 2), (price, [], [(0, 3 * price), (0, 3 * price)]))

    def test_the_price_moves_though_nobody_deals(self):
        book = book_of(TOP, ("buy", 3, 2), ("sell", 9, 4))
        self.assertEqual(book.ring(), [])
        self.assertEqual(all_told(book, 2), (9, [(0, ("buy", 3, 2)), (1, ("sell", 9, 4))], [(2, 0), (4, 0)]))

    def test_at_nought_nothing_is_paid(self):
        book = book_of(5, ("buy", 0, 3), ("sell", 0, 3))
        self.assertEqual(book.ring(), [(0, 1, 3)])
        self.assertEqual(all_told(book, 2), (0, [], [(0, 0), (0, 0)]))

    def test_at_the_top(self):
        book = book_of(5, ("sell", TOP, MOST), ("buy", TOP, MOST))
        self.assertEqual(book.ring(), [(1, 0, MOST)])
        self.assertEqual(all_told(book, 2), (TOP, [], [(0, TOP * MOST), (0, TOP * MOST)]))

    def test_pairs_of_more_than_two(self):
        book = book_of(6, *FOUR)
        told = book.ring()
        self.assertEqual(told, [(0, 1, 3), (0, 3, 1), (2, 3, 2)])
        self.assertIs(type(told), list)
        self.assertTrue(all(type(pair) is tuple for pair in told))
        self.assertEqual(all_told(book, 4), (6, [], [(0, 24), (0, 18), (0, 12), (0, 18)]))

    def test_who_goes_ahead(self):
        # Eleven are wanted at 6 and above, four are offered.
        book = book_of(6, ("buy", 6, 4), ("buy", 8, 2), ("sell", 5, 4), ("buy", 8, 3), ("buy", 7, 2))
        self.assertEqual(book.ring(), [(1, 2, 2), (3, 2, 2)])
        self.assertEqual(book.price, 8)
        self.assertEqual(book.standing(), [(0, ("buy", 6, 4)), (3, ("buy", 8, 1)), (4, ("buy", 7, 2))])
        self.assertEqual([book.paid(number) for number in range(5)], [0, 16, 32, 16, 0])

    def test_the_pairs_tell_the_numbers_of_the_book(self):
        book = book_of(5, ("buy", 1, 1), ("sell", 9, 1), ("buy", 9, 2), ("sell", 9, 1), ("sell", 2, 2))
        book.drop(0)
        book.drop(3)
        self.assertEqual(book.ring(), [(2, 4, 2)])
        self.assertEqual(book.standing(), [(1, ("sell", 9, 1))])
        self.assertEqual([book.paid(number) for number in range(5)], [0, 0, 10, 0, 10])

    def test_several_rings_with_deeds_in_between(self):
        book = book_of(5, ("buy", 9, 5), ("sell", 2, 3))
        self.assertEqual(book.ring(), [(0, 1, 3)])
        self.assertEqual(all_told(book, 2), (9, [(0, ("buy", 9, 2))], [(2, 27), (0, 27)]))
        book.add(("sell", 4, 1))
        book.add(("sell", 4, 5))
        self.assertEqual(book.ring(), [(0, 2, 1), (0, 3, 1)])
        self.assertEqual(all_told(book, 4), (4, [(3, ("sell", 4, 4))], [(0, 35), (0, 27), (0, 4), (4, 4)]))
        book.add(("buy", 6, 3))
        self.assertEqual(book.ring(), [(4, 3, 3)])
        self.assertEqual(book.price, 4)
        self.assertEqual(book.drop(3), 1)
        self.assertEqual([book.paid(number) for number in range(5)], [35, 27, 4, 16, 12])
        self.assertEqual(book.standing(), [])

    def test_an_earlier_wish_with_a_rest_goes_ahead_of_an_equal_one(self):
        book = book_of(5, ("buy", 9, 5), ("sell", 2, 3))
        book.ring()
        book.add(("buy", 9, 5))
        book.add(("sell", 2, 3))
        self.assertEqual(book.ring(), [(0, 3, 2), (2, 3, 1)])

    def test_a_ring_right_behind_a_ring(self):
        for wishes in ((), FOUR, FOUR[:3], FOUR[1:], (("buy", 3, 2), ("sell", 9, 4)), (("buy", 5, 2), ("sell", 5, 7))):
            for old in (0, 4, 6, TOP):
                book = book_of(old, *wishes)
                book.ring()
                before = all_told(book, len(wishes))
                for _ in range(3):
                    self.assertEqual(book.ring(), [])
                    self.assertEqual(all_told(book, len(wishes)), before)


class Kept(unittest.TestCase):
    def test_two_books_side_by_side(self):
        one, other = Book(3), Book(8)
        for wish in FOUR:
            one.add(wish)
            self.assertEqual(other.standing(), [])
        for number, wish in enumerate(FOUR[:2]):
            self.assertEqual(other.add(wish), number)
        told = all_told(other, 2)
        one.drop(1)
        one.ring()
        self.assertEqual(all_told(other, 2), told)
        told = all_told(one, 4)
        self.assertEqual(other.ring(), [(0, 1, 3)])
        other.drop(0)
        self.assertEqual(all_told(one, 4), told)
        self.assertEqual(Book(3).standing(), [])

    def test_lists_that_are_told_are_new_ones(self):
        book, twin = book_of(9, *FOUR), book_of(9, *FOUR)
        for tell in (lambda each: each.standing(), lambda each: each.ring(), lambda each: each.standing(),
                     lambda each: each.ring(), lambda each: each.standing()):
            told = tell(book)
            self.assertEqual(told, tell(twin))
            self.assertIs(type(told), list)
            told.append((9, ("buy", 9, 9)))
            told[0] = (0, 0, 0)
            self.assertEqual(all_told(book, 4), all_told(twin, 4))
            told.clear()
            self.assertEqual(all_told(book, 4), all_told(twin, 4))

    def test_standing_changes_nothing(self):
        book = book_of(9, *FOUR)
        known = list(enumerate(FOUR))
        for _ in range(3):
            told = book.standing()
            self.assertEqual(told, known)
            for pair in told:
                self.assertEqual((type(pair), type(pair[1])), (tuple, tuple))
        self.assertEqual(len(book.ring()), 3)

    def test_a_list_that_was_told_is_not_changed_by_the_book(self):
        book = book_of(9, *FOUR)
        standing = book.standing()
        first = book.ring()
        known = list(first)
        book.add(("buy", 9, 2))
        book.add(("sell", 1, 3))
        book.ring()
        self.assertEqual(standing, list(enumerate(FOUR)))
        self.assertEqual(first, known)


class Deeds(unittest.TestCase):
    def test_the_same_as_a_plain_book_over_rows_of_deeds(self):
        rule = Rule(60)
        for least, most, amount in ((0, 6, 3), (TOP - 6, TOP, 10), (500, 520, MOST), (0, TOP, 5)) * 30:
            old = rule.between(0, TOP) if rule.below(2) else rule.between(least, most)
            book, plain = Book(old), PlainBook(old)
            for _ in range(rule.between(5, 40)):
                self.do_one_deed(book, plain, rule, rule.wish(least, most, amount))
                self.assert_same(book, plain)

    def do_one_deed(self, book, plain, rule, wish):
        deed = rule.below(10)
        if deed < 6:
            self.assertEqual(book.add(wish), plain.add(wish))
        elif deed < 8:
            self.assertEqual(book.ring(), plain.ring())
        elif deed == 8:
            self.drop_one(book, plain, rule.between(-2, len(plain.wishes) + 1))
        else:
            with self.assertRaises(BadWish):
                book.add((wish[0], wish[1], 0))

    def drop_one(self, book, plain, number):
        if 0 <= number < len(plain.wishes) and plain.left(number) > 0:
            self.assertEqual(book.drop(number), plain.drop(number))
        else:
            with self.assertRaises(NoSuch):
                book.drop(number)

    def assert_same(self, book, plain):
        self.assertEqual((type(book.price), book.price), (int, plain.price))
        self.assertEqual(book.standing(), plain.standing())
        for number in range(len(plain.wishes)):
            self.assertEqual((book.left(number), book.paid(number)), (plain.left(number), plain.money[number]))
        with self.assertRaises(NoSuch):
            book.left(len(plain.wishes))


if __name__ == "__main__":
    unittest.main()
