"""The cheapest sayings of a priced list that say a book together, and why none are cheaper."""

from sayable.bits import bits_of, count_of, mask_of
from sayable.books import need_book
from sayable.papers import Denial, Paper
from sayable.priced import need_priced
from sayable.pricedread import PricedReading, need_few_sought


class Cheapest(Paper):
    """Sayings that say a book together, their price, and a refusing tree that shows that none cost less."""

    def __init__(self, picked, price, tree):
        Paper.__init__(self, "cheapest", picked, price, tree)
        self.picked, self.price, self.tree = self.parts


class NoSet(Denial):
    """The places that are not meant, and that all usable sayings fit: so none say the book together."""

    def __init__(self, places):
        Denial.__init__(self, "noset", places)
        self.places = self.parts[0]


def cheapest_words(book, priced):
    """A Cheapest, if some sayings of the list say the book together; otherwise a NoSet."""
    need_book(book)
    need_priced(priced, "priced")
    reading = PricedReading(book, priced)
    need_few_sought(len(priced))
    left = reading.left(reading.usable) & reading.others
    if left:
        return NoSet(reading.field.places_in(left))
    price, picked = _cheapest_set(reading)
    refusing = Refusing(reading, price)
    return Cheapest(picked, price, refusing.tree_for(0, 0))


def _cheapest_set(reading):
    """The least price at which usable sayings say the book together, and the fewest that do at this price."""
    found = []
    for code, left in enumerate(reading.left_by_codes(reading.usable)):
        if left == reading.meant:
            picked = tuple([reading.usable[at] for at in bits_of(code)])
            found.append((sum([reading.prices[index] for index in picked]), len(picked), picked))
    price, _, picked = min(found)
    return price, picked


class Refusing:
    """Makes the refusing tree of a book for a price: what is above and left out is told as masks of indexes."""

    def __init__(self, reading, price):
        self._prices = reading.prices
        self._price = price
        self._refusals = _least_refusals(reading)

    def tree_for(self, above, left_out):
        """The tree where the sayings above cost too little to say the book together."""
        if sum([self._prices[index] for index in bits_of(above)]) >= self._price:
            return None
        place, refusing = self._first_fitted(above)
        branches = []
        ahead = left_out
        for index in bits_of(refusing & ~left_out):
            branches.append((index, self.tree_for(above | 1 << index, ahead)))
            ahead = ahead | 1 << index
        return place, branches

    def _first_fitted(self, above):
        """The first of the places that all sayings above fit, and which sayings do not fit it."""
        for place, refusing in self._refusals:
            if not refusing & above:
                return place, refusing
        return None


def _least_refusals(reading):
    """For places that are not meant the pairs of one and the usable sayings that do not fit it, fewest ahead.

    Of several places that are refused by the same sayings, one stands for all.
    """
    found = {}
    for number in bits_of(reading.others):
        refusing = mask_of([index for index in reading.usable if not reading.masks[index] >> number & 1])
        found.setdefault(refusing, reading.field.all_places[number])
    return sorted([(found[mask], mask) for mask in found], key=lambda row: (count_of(row[1]), row[1]))
