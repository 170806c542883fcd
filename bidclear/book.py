"""A book, in which wishes stand until they are dealt or taken back."""

from bidclear.deals import pairs, pieces_at
from bidclear.errors import NoSuch
from bidclear.prices import checked_price, price_by
from bidclear.wishes import checked, is_number


class Book:
    """A price, and wishes that are numbered from nought as they come."""

    def __init__(self, old):
        self.price = checked_price(old)
        self._wishes = []
        self._left = []
        self._paid = []

    def add(self, wish):
        """Take a wish, and tell its number."""
        side, limit, amount = checked(wish)
        self._wishes.append(wish)
        self._left.append(amount)
        self._paid.append(0)
        return len(self._wishes) - 1

    def _known(self, number):
        """Give back the number of a wish; refuse with NoSuch whatever else it is."""
        if not is_number(number, 0, len(self._wishes) - 1):
            raise NoSuch("no wish of the book has this number")
        return number

    def left(self, number):
        """Tell how many pieces of a wish are left."""
        return self._left[self._known(number)]

    def paid(self, number):
        """Tell what a buyer has paid, or a seller got, by all rings so far."""
        return self._paid[self._known(number)]

    def drop(self, number):
        """Take back what is left of a wish, and tell how many pieces that was."""
        many = self.left(number)
        if many == 0:
            raise NoSuch("this wish stands in the book no more")
        self._left[number] = 0
        return many

    def standing(self):
        """List the wishes that stand, with their numbers and the amounts that are left."""
        return [
            (number, (side, limit, self._left[number]))
            for number, (side, limit, amount) in enumerate(self._wishes)
            if self._left[number] > 0
        ]

    def _settle(self, number, many):
        """Take pieces off a wish, and reckon up what was paid for them."""
        self._left[number] -= many
        self._paid[number] += many * self.price

    def ring(self):
        """Let the wishes that stand deal, and list who dealt with whom."""
        rows = self.standing()
        numbers = [number for number, wish in rows]
        wishes = [wish for number, wish in rows]
        self.price = price_by(wishes, self.price)
        told = []
        for buyer, seller, many in pairs(wishes, pieces_at(wishes, self.price)):
            self._settle(numbers[buyer], many)
            self._settle(numbers[seller], many)
            told.append((numbers[buyer], numbers[seller], many))
        return told
