"""Books in a way: whether they are said, how deep, and by what."""

from sayable.bits import bits_of
from sayable.fields import Field
from sayable.needs import need_few_places
from sayable.partings import Partings
from sayable.placerounds import PlaceRounds
from sayable.pointrounds import PointRounds
from sayable.pointwalk import PointWalk
from sayable.ways import base_of


class Speaker:
    """Some rooms in a way: what is told of them once serves for all crowds that may be meant there.

    The walk over their points is None in the ways that have "or".
    """

    def __init__(self, field, way, walk):
        self._field = field
        self._way = way
        self._walk = walk
        self._rounds = None

    def with_words(self, names):
        """The same rooms cut to these words."""
        return Speaker(Field(self._field.rooms, names), self._way, self._walk)

    def speech(self, places):
        """The Speech in which these places are meant."""
        meant = self._field.mask_of_places(places)
        if self._walk is not None:
            return Speech(PointRounds(self._field, self._walk.web(meant)), [0] if meant else [], meant)
        if self._rounds is None:
            self._rounds = PlaceRounds(self._field, self._way)
        return Speech(self._rounds, bits_of(meant), meant)


class Speech:
    """The points of a book in a way, its other places, and the rounds at which these part."""

    def __init__(self, rounds, points, meant):
        self.field = rounds.field
        self.rounds = rounds
        self.points = points
        self.meant = meant
        self.others = bits_of(self.field.whole & ~meant)

    def pair_at(self, parted):
        """The first pair of a point and an other place that parts at this round, None: never; None if none does."""
        for one in self.points:
            for other in self.others:
                if self.rounds.table[one][other] == parted:
                    return one, other
        return None

    def is_said(self):
        """Whether all of the points part from all other places."""
        return self.pair_at(None) is None

    def least_depth(self):
        """The least depth of the sayings that say the book; None if there is none."""
        if not self.is_said():
            return None
        return max([self.rounds.table[one][other] for one in self.points for other in self.others], default=0)

    def told_saying(self):
        """A saying of the least depth that says the book."""
        partings = Partings(self.rounds)
        return partings.maker.saying_of(partings.part_between(self.points, self.others))


def speaker_of(rooms, way):
    """The Speaker of rooms in a way; raises if they have too many places."""
    need_few_places(rooms)
    field = Field(rooms)
    return Speaker(field, way, PointWalk(field, way) if base_of(way) == "plain" else None)


def speech_of(book, way):
    """The Speech of a book in a way."""
    speaker = speaker_of(book.rooms, way)
    return speaker.speech(book.meant_places())
