"""Reading papers of talks: whether a Talk or a Speechless is right."""

from sayable.checks import is_list, is_within
from sayable.errors import TooMany
from sayable.needs import are_few_rooms
from sayable.standings import Standing
from sayable.talking import BEGIN, TalkWeb, told_talking
from sayable.talks import Speechless, Talk


def shows_talk(rooms, priced, goals, value):
    """Whether any value is a right Talk or Speechless for these goals."""
    if not are_few_rooms(rooms):
        return False
    talking = told_talking(rooms, priced, goals)
    if not isinstance(value, (Talk, Speechless)) or not _are_few_states(talking):
        return False
    if isinstance(value, Talk):
        return _is_talk(talking, value) and _are_bounds(talking, value.prices, value.price)
    return _are_shut(talking, value.standings)


def _are_few_states(talking):
    try:
        TalkWeb(talking)
    except TooMany:
        return False
    return True


def _is_talk(talking, value):
    """Whether the phrases are a talk, at their price."""
    if not is_list(value.phrases) or not all([is_within(phrase, 0, None) for phrase in value.phrases]):
        return False
    state = BEGIN
    price = 0
    for phrase in value.phrases:
        behind = {spoken: after for spoken, after in talking.spoken(state)}
        if phrase not in behind:
            return False
        state = behind[phrase]
        price += talking.prices[phrase]
    return talking.is_end(state) and is_within(value.price, price, price)


def _told_state(talking, index, standing):
    """The state that two values tell, none that is an end; None if they tell none."""
    if not is_within(index, 0, len(talking.goals) - 1) or not isinstance(standing, Standing):
        return None
    return talking.state_of(index, standing)


def _are_bounds(talking, rows, price):
    """Whether any value tells right bounds that have this price for the beginning."""
    if not is_list(rows) or not all([is_list(row) and len(row) == 3 for row in rows]):
        return False
    bounds = {}
    for index, standing, number in rows:
        state = _told_state(talking, index, standing)
        if state is None or state in bounds or not is_within(number, 0, None):
            return False
        bounds[state] = number
    if bounds.get(BEGIN, 0) != price:
        return False
    for state in bounds:
        for phrase, after in talking.spoken(state):
            if bounds[state] > talking.prices[phrase] + bounds.get(after, 0):
                return False
    return True


def _are_shut(talking, rows):
    """Whether any value tells shut states, each once, that have the beginning."""
    if not is_list(rows) or not all([is_list(row) and len(row) == 2 for row in rows]):
        return False
    states = {}
    for index, standing in rows:
        state = _told_state(talking, index, standing)
        if state is None or state in states:
            return False
        states[state] = True
    if BEGIN not in states:
        return False
    return all([after in states for state in states for _, after in talking.spoken(state)])
