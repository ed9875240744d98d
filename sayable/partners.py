"""Giving partners, unlike ones to unlike ones."""

from sayable.bits import bits_of


def lacking_partners(ones, allowed):
    """Some of the ones that have, together, fewer partners than they are; none if each can have its own.

    The partners that are allowed for the one at each index are told as a mask.
    """
    partners = {}
    held = {}
    taken = 0
    for at in range(len(ones)):
        reached, free, came = _search(at, allowed, held, taken)
        if free is None:
            return [ones[index] for index in reached]
        taken = taken | 1 << free
        while free is not None:
            taker = came[free]
            given_up = partners.get(taker)
            partners[taker] = free
            held[free] = taker
            free = given_up
    return []


def _search(at, allowed, held, taken):
    """Goes from one to its partners, and from each to who holds it, until one is not taken.

    Tells who was reached, this partner or None, and for each partner from whom it was come to.
    """
    reached = [at]
    came = {}
    seen = 0
    turn = 0
    while turn < len(reached):
        taker = reached[turn]
        turn += 1
        free = bits_of(allowed[taker] & ~taken)
        if free:
            came[free[0]] = taker
            return reached, free[0], came
        fresh = bits_of(allowed[taker] & ~seen)
        for partner in fresh:
            came[partner] = taker
            reached.append(held[partner])
        seen = seen | allowed[taker]
    return reached, None, came
