"""The fewest things of a room that must be named so that each thing can be said."""

from math import comb

from sayable.checks import joined_name
from sayable.errors import TooMany, Twice
from sayable.needs import need_room
from sayable.papers import Paper
from sayable.said import told_paper
from sayable.speech import speaker_of
from sayable.subsets import subsets
from sayable.ways import need_way

MOST_SETS = 100


class FewNames(Paper):
    """Things that are enough, sayings for all things by their names, and why no set of one thing fewer is enough."""

    def __init__(self, things, told, lacking):
        Paper.__init__(self, "fewnames", things, told, lacking)
        self.things, self.told, self.lacking = self.parts


def need_free_names(room):
    """Raises unless each thing can be named by a word that the room has not."""
    names = [joined_name("name", thing) for thing in room]
    for name in names:
        if name in room.words:
            raise Twice(name)


def are_few_sets(room, size):
    """Whether there are no more sets of so many things than may be."""
    return comb(len(room), size) <= MOST_SETS


def fewest_names(room, way):
    """The FewNames of the first set of things that is enough in the way."""
    need_room(room)
    need_way(way)
    need_free_names(room)
    fewer = []
    for size in range(len(room) + 1):
        if not are_few_sets(room, size):
            raise TooMany("sets", MOST_SETS)
        lacking = []
        for things in subsets(room.things, size):
            speaker = speaker_of([room.named(things)], way)
            found = _first_unsaid(room, speaker)
            if found is None:
                lacking = [(less, thing, told_paper(speech)) for less, thing, speech in fewer]
                return FewNames(things, _sayings(room, speaker), lacking)
            lacking.append((things, *found))
        fewer = lacking


def _first_unsaid(room, speaker):
    """The first thing that is not said alone, with its Speech; None if there is none."""
    for thing in room:
        speech = speaker.speech([(0, thing)])
        if not speech.is_said():
            return thing, speech
    return None


def _sayings(room, speaker):
    """For each thing, in order, the pair of it and a saying that fits it alone."""
    told = []
    for thing in room:
        speech = speaker.speech([(0, thing)])
        told.append((thing, speech.told_saying()))
    return told
