"""The order in which sayings that say a book together are soonest understood."""

from sayable.bits import bits_of
from sayable.books import need_book
from sayable.errors import Unlike
from sayable.papers import Paper
from sayable.priced import need_picked, need_priced
from sayable.pricedread import PricedReading, need_few_sought


class Order(Paper):
    """An order of picked sayings, its waits, and bounds that show that none has less."""

    def __init__(self, order, waits, prices):
        Paper.__init__(self, "order", order, waits, prices)
        self.order, self.waits, self.prices = self.parts


def told_reading(book, priced, picked, part):
    """The PricedReading; raises unless the picked sayings say the book together."""
    need_book(book)
    need_priced(priced, "priced")
    need_picked(priced, picked, part)
    reading = PricedReading(book, priced)
    if reading.left(picked) != reading.meant:
        raise Unlike(part)
    return reading


def room_waits(reading, order):
    """For each room the least number of sayings, the first ones of the order, that settle it."""
    waits = [0] * len(reading.field.rooms)
    left = reading.field.whole
    for index in order:
        waits = [wait + is_waiting for wait, is_waiting in zip(waits, reading.waiting(left))]
        left = left & reading.masks[index]
    return waits


def waits_in(book, priced, order):
    """The waits of the rooms in an order of sayings that say the book together."""
    reading = told_reading(book, priced, order, "order")
    return tuple(room_waits(reading, order))


def waiting_rooms(reading, picked):
    """For each set of the picked sayings, told ascending, how many rooms it does not settle, by the codes."""
    return [sum(reading.waiting(left)) for left in reading.left_by_codes(picked)]


def soonest_order(book, priced, picked):
    """The Order of the picked sayings with the least waits."""
    reading = told_reading(book, priced, picked, "picked")
    need_few_sought(len(picked))
    ascending = sorted(picked)
    bounds = _greatest_bounds(waiting_rooms(reading, ascending))
    order = []
    code = 0
    for _ in ascending:
        # With one saying more the bounds fall the most by the one that is told next.
        behind = [(bounds[code | 1 << at], at) for at in range(len(ascending)) if not code >> at & 1]
        _, at = min(behind)
        order.append(ascending[at])
        code = code | 1 << at
    return Order(order, bounds[0], bounds)


def _greatest_bounds(waiting):
    """For each code the least waits that are still to come behind its set."""
    whole = len(waiting) - 1
    bounds = [0] * len(waiting)
    for code in reversed(range(whole)):
        if waiting[code]:
            bounds[code] = waiting[code] + min([bounds[code | 1 << at] for at in bits_of(whole & ~code)])
    return bounds
