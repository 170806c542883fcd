"""Point 2 and bidclear/errors.py: the classes of refusals."""

import unittest

from bidclear import errors
from bidclear.errors import BadPieces, BadPrice, BadWish, BidError, NoSuch, Uneven, Unread

REFUSALS = (BadWish, BadPrice, BadPieces, Uneven, NoSuch, Unread)


class Errors(unittest.TestCase):
    def test_any_refusal_is_straight_under_value_error(self):
        self.assertEqual(BidError.__bases__, (ValueError,))

    def test_each_refusal_is_straight_under_any_refusal(self):
        for refusal in REFUSALS:
            self.assertEqual(refusal.__bases__, (BidError,), refusal.__name__)

    def test_no_refusal_is_under_another(self):
        for one in REFUSALS:
            for other in REFUSALS:
                self.assertEqual(issubclass(one, other), one is other)

    def test_each_is_caught_as_any_refusal_and_as_value_error(self):
        for refusal in REFUSALS:
            for caught in (refusal, BidError, ValueError):
                with self.assertRaises(caught):
                    raise refusal("why")

    def test_each_is_defined_in_its_own_file_under_its_own_name(self):
        for refusal in (BidError, *REFUSALS):
            self.assertEqual(refusal.__module__, "bidclear.errors")
            self.assertIs(getattr(errors, refusal.__name__), refusal)


if __name__ == "__main__":
    unittest.main()
