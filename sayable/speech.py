"""A book in a way: whether it is said, how deep, and by what."""

from sayable.bits import bits_of, mask_of
from sayable.fields import Field
from sayable.needs import need_few_places
from sayable.partings import Partings
from sayable.placerounds import PlaceRounds
from sayable.pointrounds import PointRounds
from sayable.ways import base_of


class Speech:
    """The points of a book in a way, its other places, and the rounds at which these part."""

    def __init__(self, book, way):
        need_few_places(book.rooms)
        self.field = Field(book.rooms)
        self.meant = mask_of([self.field.number_of_place(place) for place in book.meant_places()])
        self.others = bits_of(self.field.whole & ~self.meant)
        if base_of(way) == "plain":
            self.rounds = PointRounds(self.field, way, self.meant)
            self.points = [0] if self.meant else []
        else:
            self.rounds = PlaceRounds(self.field, way)
            self.points = bits_of(self.meant)

    def pair_at(self, parted):
        """The first pair of a point and an other place that parts at this round, None: never; None if none does."""
        for one in self.points:
            for other in self.others:
                if self.rounds.table[one][other] == parted:
                    return one, other
        return None

    def is_said(self):
        """Whether all of the points part from all other places."""
        return self.pair_at(None) is None

    def least_depth(self):
        """The least depth of the sayings that say the book; None if there is none."""
        if not self.is_said():
            return None
        return max([self.rounds.table[one][other] for one in self.points for other in self.others], default=0)

    def told_saying(self):
        """A saying of the least depth that says the book."""
        partings = Partings(self.rounds)
        return partings.maker.saying_of(partings.part_between(self.points, self.others))
