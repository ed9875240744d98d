"""What the sayings of a priced list fit of the places of a book, and what some of them leave."""

from sayable.errors import TooMany
from sayable.fields import Field
from sayable.placeread import place_mask
from sayable.reads import need_in_stock

# How many sayings at most are looked at in all their sets.
MOST_SOUGHT = 12


def need_few_sought(many):
    """Raises if there are more sayings than are looked at in all their sets."""
    if many > MOST_SOUGHT:
        raise TooMany("sayings", MOST_SOUGHT)


class PricedReading:
    """Masks of the places of a book: for each saying of a priced list what it fits, and which of them are meant.

    Raises for the first saying, and its first part, that names what the stock has not.
    """

    def __init__(self, book, priced):
        for saying in priced.sayings:
            need_in_stock(book.rooms[0], saying, ())
        self.field = Field(book.rooms)
        self.prices = priced.prices
        self.masks = [place_mask(self.field, saying, {}) for saying in priced.sayings]
        self.meant = self.field.mask_of_places(book.meant_places())
        self.others = self.field.whole & ~self.meant
        self.usable = [index for index, mask in enumerate(self.masks) if self.meant & ~mask == 0]
        self._room_masks = self.field.room_masks()

    def left(self, picked):
        """The places that all of the picked sayings fit."""
        mask = self.field.whole
        for index in picked:
            mask = mask & self.masks[index]
        return mask

    def waiting(self, left):
        """For each room whether it is not settled where these places are left."""
        return [left & self.others & room != 0 for room in self._room_masks]

    def left_by_codes(self, picked):
        """For each set of the picked sayings, in the order of their codes, the places that they leave."""
        found = [self.field.whole]
        for index in picked:
            found = found + [left & self.masks[index] for left in found]
        return found
