"""The fewest words of a stock that explain all others."""

from sayable.errors import TooMany
from sayable.explained import first_lacking, word_places, words_without
from sayable.needs import need_rooms
from sayable.papers import Paper
from sayable.said import told_paper
from sayable.speech import speaker_of
from sayable.subsets import subsets
from sayable.ways import need_way

MOST_STOCK = 8


class LeastStock(Paper):
    """Words that are enough, the others explained by them, and why no set of one word fewer is enough."""

    def __init__(self, words, told, lacking):
        Paper.__init__(self, "leaststock", words, told, lacking)
        self.words, self.told, self.lacking = self.parts


def fewest_words(rooms, way):
    """The LeastStock of the first set of words that is enough in the way."""
    need_rooms(rooms)
    need_way(way)
    stock = rooms[0].words
    if len(stock) > MOST_STOCK:
        raise TooMany("words", MOST_STOCK)
    if not stock:
        return LeastStock((), (), ())
    speaker = speaker_of(rooms, way)
    fewer = []
    for size in range(len(stock) + 1):
        lacking = []
        for names in subsets(stock, size):
            cut = speaker.with_words(names)
            found = first_lacking(rooms, names, cut)
            if found is None:
                lacking = [(less, word, told_paper(speech)) for less, word, speech in fewer]
                return LeastStock(names, _explanations(rooms, names, cut), lacking)
            lacking.append((names, *found))
        fewer = lacking


def _explanations(rooms, names, speaker):
    """For each other word, ascending, the pair of it and a saying by the names."""
    told = []
    for word in words_without(rooms, names):
        speech = speaker.speech(word_places(rooms, word))
        told.append((word, speech.told_saying()))
    return told
