"""Priced lists: sayings with their prices, and what some of them leave of a book."""

from sayable.books import need_book
from sayable.checks import is_list, is_within
from sayable.errors import BadNumbers, BadPriced, TooMany
from sayable.pricedread import PricedReading
from sayable.sayings import Saying

GREATEST_PRICE = 1000000


def is_price(value):
    """Whether any value is a price."""
    return is_within(value, 0, GREATEST_PRICE)


def _is_row(value):
    return is_list(value) and len(value) == 2 and isinstance(value[0], Saying) and is_price(value[1])


def _need_few(many):
    if many > Priced.MOST:
        raise TooMany("sayings", Priced.MOST)


class Priced:
    """A priced list: rows of a saying and its price, told by their indexes."""

    MOST = 24

    def __init__(self, rows):
        if not is_list(rows) or not rows or not all([_is_row(row) for row in rows]):
            raise BadPriced("rows")
        _need_few(len(rows))
        self.rows = tuple([tuple(row) for row in rows])
        self.sayings = tuple([saying for saying, _ in self.rows])
        self.prices = tuple([price for _, price in self.rows])

    def __len__(self):
        return len(self.rows)

    def __iter__(self):
        return iter(self.rows)

    def __contains__(self, value):
        return isinstance(value, Saying) and value in self.sayings

    def __eq__(self, other):
        return isinstance(other, Priced) and self.rows == other.rows

    @staticmethod
    def alike(price, *sayings):
        """The list of these sayings, each at this price."""
        if not is_price(price):
            raise BadNumbers("price")
        if not sayings or not all([isinstance(saying, Saying) for saying in sayings]):
            raise BadPriced("sayings")
        return Priced([(saying, price) for saying in sayings])

    def joined(self, other):
        """The list of its own rows, then those of another list."""
        need_priced(other, "other")
        return Priced(self.rows + other.rows)

    def with_price(self, index, price):
        """The list with another price for the saying with this index."""
        if not is_within(index, 0, len(self.rows) - 1):
            raise BadNumbers("index")
        if not is_price(price):
            raise BadNumbers("price")
        rows = list(self.rows)
        rows[index] = (self.sayings[index], price)
        return Priced(rows)

    def price_of(self, picked):
        """The price of the picked sayings together."""
        need_picked(self, picked, "picked")
        return sum([self.prices[index] for index in picked])


def need_priced(priced, part):
    """Raises unless it is a Priced."""
    if not isinstance(priced, Priced):
        raise BadPriced(part)


def are_indexes(priced, value):
    """Whether any value is a list of different indexes of the list, in any order."""
    if not is_list(value) or not all([is_within(index, 0, len(priced) - 1) for index in value]):
        return False
    return len(set(value)) == len(value)


def need_picked(priced, value, part):
    """Raises unless it is a list of different indexes of the list."""
    if not are_indexes(priced, value):
        raise BadPriced(part)


def usable_in(book, priced):
    """The indexes of the sayings that fit all meant places, ascending."""
    need_book(book)
    need_priced(priced, "priced")
    reading = PricedReading(book, priced)
    return tuple(reading.usable)


def left_by(book, priced, picked):
    """For each room the things that all of the picked sayings fit."""
    need_book(book)
    need_priced(priced, "priced")
    need_picked(priced, picked, "picked")
    reading = PricedReading(book, priced)
    return reading.field.crowds_in(reading.left(picked))
