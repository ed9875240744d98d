"""Translations: sayings that are told for words, and those that a teller has for the words of others."""

from sayable.checks import is_list, is_name
from sayable.errors import BadTeller, BadTranslation, NoWord
from sayable.explained import word_places
from sayable.lists import need_once
from sayable.needs import need_rooms
from sayable.papers import Denial
from sayable.putin import put_in
from sayable.reads import readings_in
from sayable.said import told_paper
from sayable.sayings import Saying
from sayable.speech import speaker_of
from sayable.tellers import cut_rooms, is_teller, need_stock_of
from sayable.ways import need_way


class Translation:
    """A saying for each of some words."""

    def __init__(self, words):
        if not isinstance(words, dict):
            raise BadTranslation("words")
        if not all([is_name(word) and isinstance(words[word], Saying) for word in words]):
            raise BadTranslation("words")
        self.words = tuple(sorted(words))
        self._told = {word: words[word] for word in self.words}

    def __eq__(self, other):
        return isinstance(other, Translation) and self._told == other._told

    def saying_of(self, name):
        """The saying for a word."""
        if not isinstance(name, str) or name not in self._told:
            raise NoWord(name)
        return self._told[name]

    def carried(self, saying):
        """A saying with the words replaced by their sayings, all at once."""
        return put_in(saying, self._told)

    def then(self, other):
        """This translation and, behind it, another one as one."""
        if not isinstance(other, Translation):
            raise BadTranslation("other")
        told = {word: other.carried(self._told[word]) for word in self.words}
        for word in other.words:
            if word not in told:
                told[word] = other.saying_of(word)
        return Translation(told)

    def stands(self, rooms):
        """Whether each of the words holds of just the things that its saying fits, in each of the rooms."""
        need_rooms(rooms)
        for word in self.words:
            rooms[0].word_mask(word)
        read = [readings_in(rooms, self._told[word]) for word in self.words]
        return read == [tuple([room.things_of(word) for room in rooms]) for word in self.words]


class Untold(Denial):
    """A word that is not the teller's, and what shows that no saying with his words and links says it."""

    def __init__(self, name, point, place, pairs):
        Denial.__init__(self, "untold", name, point, place, pairs)
        self.name, self.point, self.place, self.pairs = self.parts


def translation_of(rooms, names, teller, way):
    """A Translation of some words into a teller's words and links, of the least depths; or an Untold."""
    need_rooms(rooms)
    if not is_list(names):
        raise BadTranslation("names")
    for name in names:
        rooms[0].word_mask(name)
    need_once(names)
    if not is_teller(teller):
        raise BadTeller("teller")
    need_stock_of(rooms[0], teller)
    need_way(way)
    told = {}
    if names:
        speaker = speaker_of(cut_rooms(rooms, teller), way)
        for name in names:
            paper = told_paper(speaker.speech(word_places(rooms, name)))
            if not paper:
                return Untold(name, paper.point, paper.place, paper.pairs)
            told[name] = paper.saying
    return Translation(told)
