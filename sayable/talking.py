"""The states of a talk, told as numbers, and where phrases lead from each.

A pick is the mask of its places, a state the tuple of its index and of the last pick, the one
before, and the first one, 0 for None: a pick is never empty.
"""

from sayable.checks import is_list
from sayable.errors import BadTalk, TooMany
from sayable.fields import Field
from sayable.lists import need_crowd
from sayable.needs import need_rooms
from sayable.placeread import place_mask
from sayable.priced import need_priced
from sayable.reads import need_in_stock
from sayable.standings import TALK_WORDS, is_pick, need_free_words, standing_of

MOST_STATES = 2000
BEGIN = (0, 0, 0, 0)


def _is_goal(rooms, value):
    if not is_list(value) or len(value) != len(rooms):
        return False
    return all([is_list(crowd) and crowd for crowd in value])


def _need_goals(rooms, goals):
    if not is_list(goals) or not goals or not all([_is_goal(rooms, goal) for goal in goals]):
        raise BadTalk("goals")
    for goal in goals:
        for room, crowd in zip(rooms, goal):
            need_crowd(room, crowd)


def told_talking(rooms, priced, goals):
    """The Talking of these; raises what a talk raises, but for too many states."""
    need_rooms(rooms)
    need_free_words(rooms)
    need_priced(priced, "priced")
    _need_goals(rooms, goals)
    for saying in priced.sayings:
        need_in_stock(rooms[0], saying, TALK_WORDS)
    return Talking(rooms, priced, goals)


class Talking:
    """What can be spoken in the states of a talk, and what is behind it."""

    def __init__(self, rooms, priced, goals):
        self.field = Field(rooms)
        self.prices = priced.prices
        self.goals = [self._goal_mask(goal) for goal in goals]
        self._sayings = priced.sayings
        self._uses = [[word in saying.words for word in ("it", "other", "first")] for saying in priced.sayings]
        self._room_masks = self.field.room_masks()
        # What a phrase picks hangs on those picks alone that its saying names: these come again and again.
        self._known = [{} for _ in priced.sayings]
        self._crowds = {0: None}
        self._masks = {}

    def _goal_mask(self, goal):
        return self.field.mask_of_places([(index, thing) for index, crowd in enumerate(goal) for thing in crowd])

    def is_end(self, state):
        """Whether all goals are picked."""
        return state[0] == len(self.goals)

    def spoken(self, state):
        """The pairs of each phrase that can be spoken in a state and the state behind it; none at an end."""
        if self.is_end(state):
            return []
        found = []
        for phrase in range(len(self.prices)):
            picked = self._picked(phrase, state[1:])
            if picked:
                index = state[0] + 1 if picked == self.goals[state[0]] else state[0]
                found.append((phrase, (index, picked, state[1], state[3] or picked)))
        return found

    def _picked(self, phrase, picks):
        """What a phrase picks; 0 if nothing."""
        named = tuple([pick if is_used else 0 for pick, is_used in zip(picks, self._uses[phrase])])
        known = self._known[phrase]
        if named not in known:
            more = {"it": named[0], "other": named[1], "first": named[2]}
            mask = place_mask(self.field, self._sayings[phrase], more)
            known[named] = mask if all([mask & room for room in self._room_masks]) else 0
        return known[named]

    def told_standing(self, state):
        """The standing of a state."""
        return standing_of([self._crowds_of(picked) for picked in state[1:]])

    def _crowds_of(self, picked):
        if picked not in self._crowds:
            self._crowds[picked] = self.field.crowds_in(picked)
        return self._crowds[picked]

    def state_of(self, index, standing):
        """The state with this index and this standing; None unless its picks are picks in these rooms."""
        masks = [self._mask_of(picked) for picked in standing.picks()]
        return None if None in masks else (index, *masks)

    def _mask_of(self, picked):
        """The mask of a pick, 0 for None; None unless it is a pick in these rooms."""
        if picked is None:
            return 0
        if picked not in self._masks:
            self._masks[picked] = self._goal_mask(picked) if is_pick(self.field.rooms, picked) else None
        return self._masks[picked]


class TalkWeb:
    """All states that come about, and for each of them the pairs of a phrase and the number of the state behind it."""

    def __init__(self, talking):
        self.talking = talking
        self.states = [BEGIN]
        self.numbers = {BEGIN: 0}
        self.moves = []
        while len(self.moves) < len(self.states):
            spoken = talking.spoken(self.states[len(self.moves)])
            self.moves.append([(phrase, self._number_of(after)) for phrase, after in spoken])

    def _number_of(self, state):
        """The number of a state that comes about."""
        if state not in self.numbers:
            if len(self.states) == MOST_STATES:
                raise TooMany("standings", MOST_STATES)
            self.numbers[state] = len(self.states)
            self.states.append(state)
        return self.numbers[state]
