"""What can be said of a book in a way, and why not more, nor less deep."""

from sayable.books import need_book
from sayable.papers import Denial, Paper
from sayable.speech import speech_of
from sayable.support import closed_from, stages_to
from sayable.ways import WAYS, need_way


class Said(Paper):
    """A saying that says a book, and stages that show that none less deep does."""

    def __init__(self, saying, point, place, stages):
        Paper.__init__(self, "said", saying, point, place, stages)
        self.saying, self.point, self.place, self.stages = self.parts


class Unsaid(Denial):
    """Closed pairs, one of them of a point of a book and another place: so no saying says the book."""

    def __init__(self, point, place, pairs):
        Denial.__init__(self, "unsaid", point, place, pairs)
        self.point, self.place, self.pairs = self.parts


def told_paper(speech):
    """A Said of the least depth, if the book of a Speech is said; otherwise an Unsaid."""
    depth = speech.least_depth()
    if depth == 0:
        return Said(speech.told_saying(), None, None, ())
    one, other = speech.pair_at(depth)
    point, place = speech.rounds.point_of(one), speech.field.all_places[other]
    if depth is None:
        return Unsaid(point, place, closed_from(speech.rounds, one, other))
    return Said(speech.told_saying(), point, place, stages_to(speech.rounds, one, other, depth))


def say_book(book, way):
    """A Said of the least depth, if the book is said in the way; otherwise an Unsaid."""
    need_book(book)
    need_way(way)
    return told_paper(speech_of(book, way))


def least_depth(book, way):
    """The least depth of the sayings that say the book in the way; None if there is none."""
    need_book(book)
    need_way(way)
    speech = speech_of(book, way)
    return speech.least_depth()


def said_ways(book):
    """The ways in which a book is said, in their order."""
    return tuple([way for way in WAYS if least_depth(book, way) is not None])
