"""Reading papers of priced lists: whether a Cheapest, a NoSet or an Order is right."""

from sayable.books import need_book
from sayable.cheapest import Cheapest, NoSet
from sayable.checks import is_integer, is_list, is_within
from sayable.needs import is_place
from sayable.priced import are_indexes, need_priced
from sayable.pricedread import MOST_SOUGHT, PricedReading
from sayable.soonest import Order, room_waits, told_reading, waiting_rooms


def shows_cheapest(book, priced, value):
    """Whether any value is a right Cheapest or NoSet for the book and the list."""
    need_book(book)
    need_priced(priced, "priced")
    reading = PricedReading(book, priced)
    if len(priced) > MOST_SOUGHT:
        return False
    if isinstance(value, NoSet):
        return _shows_places(reading, value.places)
    return isinstance(value, Cheapest) and _shows_price(reading, priced, value)


def _shows_places(reading, places):
    """Whether any value is the tuple of the other places that all usable sayings fit, at least one."""
    if not is_list(places) or not places or not all([is_place(reading.field.rooms, place) for place in places]):
        return False
    return places == reading.field.places_in(reading.left(reading.usable) & reading.others)


def _shows_price(reading, priced, value):
    if not are_indexes(priced, value.picked) or list(value.picked) != sorted(value.picked):
        return False
    if reading.left(value.picked) != reading.meant:
        return False
    if not is_integer(value.price) or value.price != priced.price_of(value.picked):
        return False
    refusals = RefusalCheck(reading, value.price)
    return refusals.is_right(value.tree, (), ())


class RefusalCheck:
    """Reads a refusing tree of a book for a price."""

    def __init__(self, reading, price):
        self._reading = reading
        self._price = price

    def is_right(self, tree, above, left_out):
        """Whether any value is a right tree where these indexes are above, and these left out."""
        reading = self._reading
        if tree is None:
            return sum([reading.prices[index] for index in above]) >= self._price
        if not is_list(tree) or len(tree) != 2 or not is_place(reading.field.rooms, tree[0]):
            return False
        number = reading.field.number_of_place(tree[0])
        if not reading.left(above) & reading.others & 1 << number:
            return False
        refusing = [index for index in reading.usable if not reading.masks[index] >> number & 1]
        wanted = [index for index in refusing if index not in left_out]
        if not _have_indexes(tree[1], wanted):
            return False
        for at, (index, below) in enumerate(tree[1]):
            if not self.is_right(below, (*above, index), (*left_out, *wanted[:at])):
                return False
        return True


def _have_indexes(branches, wanted):
    """Whether any value is a list of pairs, the first items of which are just these indexes."""
    if not is_list(branches) or not all([is_list(branch) and len(branch) == 2 for branch in branches]):
        return False
    return all([is_integer(branch[0]) for branch in branches]) and [branch[0] for branch in branches] == wanted


def shows_soonest(book, priced, picked, value):
    """Whether any value is an Order of just the picked sayings with its waits and bounds that show them the least."""
    reading = told_reading(book, priced, picked, "picked")
    if len(picked) > MOST_SOUGHT or not isinstance(value, Order):
        return False
    if not are_indexes(priced, value.order) or sorted(value.order) != sorted(picked):
        return False
    if not is_integer(value.waits) or value.waits != sum(room_waits(reading, value.order)):
        return False
    return _are_bounds(value.prices, waiting_rooms(reading, sorted(picked))) and value.prices[0] == value.waits


def _are_bounds(value, waiting):
    """Whether any value tells bounds, where so many rooms wait behind each set."""
    if not is_list(value) or len(value) != len(waiting) or not all([is_within(bound, 0, None) for bound in value]):
        return False
    whole = len(waiting) - 1
    for code, bound in enumerate(value):
        if not waiting[code] and bound:
            return False
        behind = [value[code | 1 << at] for at in range(whole.bit_length()) if not code >> at & 1]
        if waiting[code] and bound > waiting[code] + min(behind):
            return False
    return True
