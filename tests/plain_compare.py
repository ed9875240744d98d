"""Points 16 to 18 of the document, read step by step: partings, refusing trees, waits and bounds."""

import itertools

from tests import plain


def above(rooms, scale, word, place):
    """Whether a place is above in a word, by the table of point 6."""
    room, thing = rooms[place[0]], place[1]
    number = room.number_of(scale, thing)
    if number is None or not room.holds(word, thing):
        return False
    others = [room.number_of(scale, t) for t in room.things_of(word) if t != thing and room.number_of(scale, t) is not None]
    return 2 * sum(n < number for n in others) > len(others)


def number_of(rooms, scale, place):
    return rooms[place[0]].number_of(scale, place[1])


def greater_in(rooms, scale, one, other, index):
    """Whether a class stands in a room and has a greater number there than another class has."""
    mine = [number_of(rooms, scale, place) for place in one if place[0] == index]
    its = [number_of(rooms, scale, place) for place in other if place[0] == index]
    return bool(its) and its[0] > mine[0]


def is_stable(rooms, way, classes):
    """Whether a parting is stable, by each of the five rows of point 16."""
    stock = rooms[0].stock
    for group in classes:
        for one, other in itertools.product(group, group):
            mine, its = rooms[one[0]], rooms[other[0]]
            if any(mine.holds(word, one[1]) != its.holds(word, other[1]) for word in stock[0]):
                return False
            if any(above(rooms, scale, word, one) != above(rooms, scale, word, other) for scale in stock[2] for word in stock[0]):
                return False
            for link, back in plain.links_read(rooms, way):
                for among in classes:
                    heads = [[head for head in plain.heads_of(rooms, link, place, back) if head in among] for place in (one, other)]
                    if bool(heads[0]) != bool(heads[1]) or way.startswith("full") and len(heads[0]) != len(heads[1]):
                        return False
        for scale in stock[2]:
            told = [(place[0], number_of(rooms, scale, place)) for place in group]
            if len({number is None for _, number in told}) > 1 or len(set(told)) > len({index for index, _ in told}):
                return False
    for scale in stock[2]:
        numbered = [group for group in classes if number_of(rooms, scale, group[0]) is not None]
        for one, other in itertools.permutations(numbered, 2):
            if len({greater_in(rooms, scale, one, other, index) for index, _ in one}) > 1:
                return False
    return True


def top(rooms, scale, crowd):
    """The places of a crowd with a number and none of the crowd greater in their room."""
    numbered = [place for place in crowd if number_of(rooms, scale, place) is not None]
    return frozenset(place for place in numbered if not any(
        other[0] == place[0] and number_of(rooms, scale, other) > number_of(rooms, scale, place) for other in numbered))


def crowds_compared(rooms, way):
    """All crowds of places to which the sayings of a way, top and above let, read."""
    whole = frozenset(plain.places(rooms))
    words, _, scales = rooms[0].stock
    made = [whole] + [frozenset(p for p in whole if plain.word_holds(rooms, word, [p])) for word in words]
    made += [frozenset(p for p in whole if above(rooms, scale, word, p)) for scale in scales for word in words]
    heads = [{place: plain.heads_of(rooms, link, place, back) for place in whole} for link, back in plain.links_read(rooms, way)]
    found = plain.closed_under("not", made, whole)
    while True:
        more = set(found)
        for crowd in found:
            more |= {top(rooms, scale, crowd) for scale in scales}
            for led_to in heads:
                for many in range(1, 7 if way.startswith("full") else 2):
                    more.add(frozenset(p for p in whole if sum(head in crowd for head in led_to[p]) >= many))
        more = plain.closed_under("not", more, whole)
        if more == found:
            return found
        found = more


def least_crowds(crowds, rooms):
    """The least ones of crowds that are closed under and, or, not, each and all in order."""
    order = plain.places(rooms)
    found = {min((crowd for crowd in crowds if place in crowd), key=len) for place in order}
    return tuple(sorted((tuple(p for p in order if p in crowd) for crowd in found), key=lambda group: order.index(group[0])))


def partings(items):
    """All partings of some items."""
    if not items:
        yield []
        return
    for rest in partings(items[1:]):
        yield [[items[0]], *rest]
        for at in range(len(rest)):
            yield [*rest[:at], [items[0], *rest[at]], *rest[at + 1:]]


def left_by(book, priced, picked):
    readings = [[plain.reading(room, priced.sayings[index]) for index in picked] for room in book.rooms]
    return tuple(tuple(t for t in room if all(t in read for read in told)) for room, told in zip(book.rooms, readings))


def fits(book, priced, index, place):
    return place[1] in plain.reading(book.rooms[place[0]], priced.sayings[index])


def usable(book, priced):
    return [k for k in range(len(priced)) if all(fits(book, priced, k, place) for place in book.meant_places())]


def all_sets(items):
    return [chosen for size in range(len(items) + 1) for chosen in itertools.combinations(items, size)]


def least_price(book, priced):
    """The least price of all sets of sayings that say the book together, or None."""
    return min((sum(priced.prices[k] for k in chosen) for chosen in all_sets(range(len(priced)))
                if left_by(book, priced, chosen) == book.meant), default=None)


def is_tree(book, priced, price, tree, ahead=(), out=()):
    """Whether a refusing tree is right, node by node."""
    if tree is None:
        return sum(priced.prices[k] for k in ahead) >= price
    place, branches = tree
    if place not in book.other_places() or not all(fits(book, priced, k, place) for k in ahead):
        return False
    wanted = [k for k in usable(book, priced) if not fits(book, priced, k, place) and k not in out]
    if [k for k, _ in branches] != wanted:
        return False
    return all(is_tree(book, priced, price, below, (*ahead, k), (*out, *wanted[:at])) for at, (k, below) in enumerate(branches))


def unsettled(book, priced, picked):
    return [told != meant for told, meant in zip(left_by(book, priced, picked), book.meant)]


def waits(book, priced, order):
    return tuple(next(k for k in range(len(order) + 1) if not unsettled(book, priced, order[:k])[index]) for index in range(len(book.rooms)))


def are_bounds(book, priced, picked, bounds):
    picked = sorted(picked)
    if len(bounds) != 2 ** len(picked):
        return False
    for code, bound in enumerate(bounds):
        chosen = [k for at, k in enumerate(picked) if code & 2 ** at]
        waiting = sum(unsettled(book, priced, chosen))
        if bound < 0 or not waiting and bound:
            return False
        if waiting and any(bound > waiting + bounds[code + 2 ** at] for at in range(len(picked)) if not code & 2 ** at):
            return False
    return True
