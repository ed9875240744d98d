"""Points 19 to 21 of the document, read step by step: talks, and what tellers tell."""

import itertools

from sayable.standings import Standing
from tests import plain

BEGIN = (0, (None, None, None))


def picked(rooms, picks, saying):
    held = dict(zip(("it", "other", "first"), picks))
    readings = tuple(plain.reading(room, saying, {word: held[word][at] if held[word] else () for word in held}) for at, room in enumerate(rooms))
    return readings if all(readings) else None


def in_rooms(rooms, goals):
    return [tuple(tuple(t for t in room if t in crowd) for room, crowd in zip(rooms, goal)) for goal in goals]


def spoken(rooms, priced, goals, state):
    """The pairs of phrase and state behind it, for the phrases that can be spoken."""
    index, picks = state
    if index == len(goals):
        return []
    found = []
    for phrase, saying in enumerate(priced.sayings):
        told = picked(rooms, picks, saying)
        if told is not None:
            found.append((phrase, (index + (told == in_rooms(rooms, goals)[index]), (told, picks[0], picks[2] or told))))
    return found


def states_about(rooms, priced, goals):
    """All states that come about, with the pairs of phrase and state behind."""
    met = {BEGIN: None}
    waiting = [BEGIN]
    for state in waiting:
        met[state] = spoken(rooms, priced, goals, state)
        for _, behind in met[state]:
            if behind not in met:
                met[behind] = None
                waiting.append(behind)
    return met


def least_prices(rooms, priced, goals):
    """For each state the least price to an end, by lowering prices as long as any can be; None for no end."""
    met = states_about(rooms, priced, goals)
    price = {state: 0 if state[0] == len(goals) else None for state in met}
    while True:
        lowered = False
        for state in met:
            for phrase, behind in met[state]:
                if price[behind] is not None:
                    more = priced.prices[phrase] + price[behind]
                    if price[state] is None or more < price[state]:
                        price[state], lowered = more, True
        if not lowered:
            return price


def talk_price(rooms, priced, goals, phrases):
    """The price of a row of phrases if it is a talk, or None."""
    state, price = BEGIN, 0
    for phrase in phrases:
        behind = dict(spoken(rooms, priced, goals, state)).get(phrase)
        if behind is None:
            return None
        state, price = behind, price + priced.prices[phrase]
    return price if state[0] == len(goals) else None


def least_of_short(rooms, priced, goals, most):
    """The least price of all talks of at most so many phrases, or None."""
    prices = [talk_price(rooms, priced, goals, row) for size in range(1, most + 1)
              for row in itertools.product(range(len(priced)), repeat=size)]
    return min((price for price in prices if price is not None), default=None)


def told_state(rooms, goals, index, standing):
    """The state that a row tells, or None."""
    if type(index) is not int or not 0 <= index < len(goals) or not isinstance(standing, Standing):
        return None
    for told in (standing.last, standing.before, standing.first):
        if told is not None and (len(told) != len(rooms) or told not in in_rooms(rooms, [told])):
            return None
    return index, (standing.last, standing.before, standing.first)


def are_bounds(rooms, priced, goals, rows, price):
    bounds = {}
    for index, standing, number in rows:
        state = told_state(rooms, goals, index, standing)
        if state is None or state in bounds or type(number) is not int or number < 0:
            return False
        bounds[state] = number
    return bounds.get(BEGIN, 0) == price and all(
        bounds[state] <= priced.prices[phrase] + bounds.get(behind, 0) for state in bounds
        for phrase, behind in spoken(rooms, priced, goals, state))


def are_shut(rooms, priced, goals, rows):
    states = [told_state(rooms, goals, index, standing) for index, standing in rows]
    if None in states or len(set(states)) < len(states) or BEGIN not in states:
        return False
    return all(behind in states for state in states for _, behind in spoken(rooms, priced, goals, state))


def cut(rooms, teller):
    return [room.cut(teller[0], teller[1], []) for room in rooms]


def crowds_told(rooms, teller, way):
    """All crowds of places that are a teller's."""
    return plain.crowd_levels(cut(rooms, teller), way)[-1]


def least_around(crowds, heard):
    return frozenset.intersection(*[crowd for crowd in crowds if crowd >= heard])


def told_on(crowd_lists, heard):
    """What is told by one teller after the other."""
    told = []
    for crowds in crowd_lists:
        heard = least_around(crowds, heard)
        told.append(heard)
    return told


def as_crowds(rooms, places):
    return tuple(tuple(t for t in room if (k, t) in places) for k, room in enumerate(rooms))
