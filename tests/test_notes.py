"""Point 13 and bidclear/notes.py: how a wish is written and read."""

import unittest

from bidclear import notes as module
from bidclear.errors import BadWish, BidError, Unread
from bidclear.notes import read, shown
from bidclear.wishes import MOST, TOP
from tests.samples import Rule, every_list

# All signs of a text: the blank to ~, but one, and line ends and tabs.
SIGNS = [chr(code) for code in range(32, 127) if code != 37] + ["\n", "\t"]

GOOD = ("buy 5 at 7", "sell 10 at 0", f"buy {MOST} at {TOP}")


class Interface(unittest.TestCase):
    def test_the_functions_are_defined_in_their_file(self):
        for name in ("shown", "read"):
            self.assertEqual(getattr(module, name).__module__, "bidclear.notes")

    def test_the_arguments_have_their_names(self):
        self.assertEqual(shown(wish=("buy", 7, 5)), "buy 5 at 7")
        self.assertEqual(read(line="buy 5 at 7"), ("buy", 7, 5))


class Shown(unittest.TestCase):
    def test_known_wishes(self):
        for wish, known in ((("buy", 7, 5), "buy 5 at 7"), (("sell", 7, 5), "sell 5 at 7"),
                            (("sell", 0, 1), "sell 1 at 0"), (("buy", TOP, MOST), "buy 1000000 at 1000000000"),
                            (("buy", 10, 100), "buy 100 at 10")):
            told = shown(wish)
            self.assertEqual((type(told), told), (str, known))


class Read(unittest.TestCase):
    def assert_wish(self, line, known):
        told = read(line)
        self.assertEqual(told, known, line)
        self.assertEqual([type(told)] + [type(part) for part in told], [tuple, str, int, int])

    def assert_unread(self, line):
        with self.assertRaises(Unread, msg=repr(line)):
            read(line)

    def assert_bad_wish(self, line):
        with self.assertRaises(BadWish, msg=repr(line)):
            read(line)

    def test_known_texts(self):
        for line, known in (("buy 5 at 7", ("buy", 7, 5)), ("sell 5 at 7", ("sell", 7, 5)),
                            ("sell 1 at 0", ("sell", 0, 1)), ("buy 1000000 at 1000000000", ("buy", TOP, MOST)),
                            ("buy 100 at 10", ("buy", 10, 100)), ("sell 9 at 10", ("sell", 10, 9))):
            self.assert_wish(line, known)

    def test_what_is_written_is_read_to_the_same_wish(self):
        for side in ("buy", "sell"):
            for limit in (0, 1, TOP - 1, TOP):
                for amount in (1, 2, MOST - 1, MOST):
                    self.assert_wish(shown((side, limit, amount)), (side, limit, amount))

    def test_what_is_written_of_made_wishes_is_read_to_the_same_wish(self):
        for wishes in every_list(70, 200):
            for wish in wishes:
                self.assert_wish(shown(wish), wish)

    def test_texts_without_words(self):
        for line in ("", " ", "  ", "   ", "    ", "\n", "\t", "\n\n\n\n"):
            self.assert_unread(line)

    def test_blanks(self):
        for line in GOOD:
            words = line.split(" ")
            self.assert_unread(" " + line)
            self.assert_unread(line + " ")
            self.assert_unread(" " + line + " ")
            self.assert_unread("".join(words))
            for at in range(1, 4):
                first, last = " ".join(words[:at]), " ".join(words[at:])
                self.assert_unread(first + last)
                for blank in ("  ", "   ", "\t", "\n", " \n", "\n ", "\t ", " \t"):
                    self.assert_unread(first + blank + last)

    def test_a_line_end_or_a_tab_at_any_place(self):
        for line in GOOD:
            for at in range(len(line) + 1):
                for sign in ("\n", "\t", "\n\n", "\t\n"):
                    self.assert_unread(line[:at] + sign + line[at:])
                if at < len(line):
                    for sign in ("\n", "\t"):
                        self.assert_unread(line[:at] + sign + line[at + 1:])

    def test_other_words(self):
        for line in ("Buy 5 at 7", "BUY 5 at 7", "Sell 5 at 7", "bu 5 at 7", "buys 5 at 7", "but 5 at 7", "at 5 at 7",
                     "buy 5 At 7", "buy 5 AT 7", "buy 5 a 7", "buy 5 by 7", "buy 5 att 7", "buy 5 buy 7", "5 buy 7 at",
                     "at 5 buy 7", "buy at 5 7", "buysell 5 at 7", "buy 5 @ 7", "'buy' 5 at 7"):
            self.assert_unread(line)

    def test_too_few_words_and_too_many(self):
        for line in ("buy", "buy 5", "buy 5 at", "5 at 7", "buy at 7", "buy 5 7", "buy 5 at 7 now", "buy 5 at 7 8",
                     "now buy 5 at 7", "buy 5 at at 7", "buy buy 5 at 7", "buy 5 at 7 sell 5 at 7",
                     "buy 5 at 7\nsell 5 at 7", "buy 5 at 7\n"):
            self.assert_unread(line)

    def test_no_numbers(self):
        for word in ("five", "+5", "-5", "-0", "+0", "05", "00", "000", "007", "1_0", "1,000", "5.0", "5.", ".5", "5e1",
                     "0x5", "x", "a1", "1a", "5-", "--5", "(5)", "'5'", "True", "None", "nan", "1/2", "at", "o", "O"):
            self.assert_unread(f"buy {word} at 7")
            self.assert_unread(f"buy 5 at {word}")
            self.assert_unread(f"sell {word} at {word}")

    def test_sixty_figures_and_sixty_one(self):
        for figures in ("1" * 60, "9" * 60, "1" + "0" * 59):
            self.assert_bad_wish(f"buy {figures} at 7")
            self.assert_bad_wish(f"buy 5 at {figures}")
            self.assert_bad_wish(f"buy {figures} at {figures}")
        for many in (61, 62, 100, 5000):
            for figures in ("1" * many, "9" * many, "1" + "0" * (many - 1), "0" * many, "0" * (many - 1) + "5"):
                self.assert_unread(f"buy {figures} at 7")
                self.assert_unread(f"buy 5 at {figures}")
        for many in (2, 59, 60):
            self.assert_unread("buy " + "0" * (many - 1) + "5 at 7")
            self.assert_unread("buy 5 at " + "0" * many)

    def test_beyond_the_bounds(self):
        for line in ("buy 0 at 7", "sell 0 at 0", f"buy {MOST + 1} at 7", f"sell 5 at {TOP + 1}",
                     f"buy 0 at {TOP + 1}", f"sell {MOST + 1} at {TOP + 1}", f"buy {TOP} at {TOP}",
                     f"buy {10 * MOST} at 7", f"sell 5 at {10 * TOP}"):
            self.assert_bad_wish(line)

    def test_another_form_comes_before_a_number_beyond_its_bounds(self):
        for line in ("buy 0 at 07", "buy 00 at 7", f"buy 0{MOST + 1} at 7", f"sell 5 at 0{TOP + 1}", "Buy 0 at 7",
                     "buy 0 at seven", f"buy -1 at {TOP + 1}", "buy 0 at 7 ", "buy 0  at 7", "buy 0 at 7\n",
                     f"buy {'9' * 60} at {'9' * 61}", f"buy 0 at {TOP + 1} 5"):
            self.assert_unread(line)

    def test_the_refusals_are_caught_as_any_refusal_and_as_value_error(self):
        for line in ("buy five at 7", "buy 0 at 7"):
            for caught in (BidError, ValueError):
                with self.assertRaises(caught):
                    read(line)

    def test_one_sign_put_in_taken_out_or_changed(self):
        for line in GOOD:
            for at in range(len(line) + 1):
                self.assert_told_or_refused(line[:at] + line[at + 1:])
                for sign in SIGNS:
                    self.assert_told_or_refused(line[:at] + sign + line[at:])
                    self.assert_told_or_refused(line[:at] + sign + line[at + 1:])

    def test_texts_of_signs_and_words_by_a_rule(self):
        rule = Rule(71)
        parts = SIGNS + ["buy", "sell", "at", " ", " ", " ", "0", "5", "12", "buy ", " at ", str(MOST + 1), str(TOP)]
        for _ in range(4000):
            self.assert_told_or_refused("".join(parts[rule.below(len(parts))] for _ in range(rule.below(9))))

    def assert_told_or_refused(self, line):
        # What is read is written as it was: there is no second way to write a wish.
        try:
            told = read(line)
        except BidError as refusal:
            self.assertIn(type(refusal), (Unread, BadWish), line)
        else:
            self.assertEqual(shown(told), line)

    def test_what_is_no_text(self):
        for thing in (None, 5, b"buy 5 at 7", ["buy", "5", "at", "7"], ("buy", 7, 5)):
            self.assert_unread(thing)


if __name__ == "__main__":
    unittest.main()
