"""How a wish is written and read."""

from bidclear.errors import Unread
from bidclear.wishes import checked

FIGURES = "0123456789"
MOST_FIGURES = 60


def shown(wish):
    """Write a wish."""
    side, limit, amount = wish
    return f"{side} {amount} at {limit}"


def is_written_number(word):
    """Tell whether a word has the form of a number."""
    if not 1 <= len(word) <= MOST_FIGURES:
        return False
    if word[0] == "0":
        return word == "0"
    return all([sign in FIGURES for sign in word])


def read(line):
    """Read a wish; refuse with Unread another form, with BadWish a number beyond its bounds."""
    if not isinstance(line, str):
        raise Unread("a wish is written by a text")
    # Split at single blanks alone: every other sign, a line end too, is left
    # in its word and spoils it, and a blank too many makes an empty word.
    words = line.split(" ")
    if len(words) != 4:
        raise Unread("a wish is written by four words with single blanks between")
    side, amount, between, limit = words
    if side not in ("buy", "sell") or between != "at":
        raise Unread("a wish is written as buy AMOUNT at LIMIT or sell AMOUNT at LIMIT")
    if not is_written_number(amount) or not is_written_number(limit):
        raise Unread(f"a number is written by one to {MOST_FIGURES} figures, without a nought ahead")
    return checked((side, int(limit), int(amount)))
