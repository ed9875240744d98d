"""What is said of a book by comparing, and what is not."""

from sayable.books import need_book
from sayable.comparing import COMPARING_WAYS, ClassMaker
from sayable.fields import Field
from sayable.needs import need_few_places, need_rooms
from sayable.papers import Denial, Paper
from sayable.ways import need_way


class Compared(Paper):
    """A saying, with top and above let, that fits just the meant places."""

    def __init__(self, saying):
        Paper.__init__(self, "compared", saying)
        self.saying = self.parts[0]


class Cut(Denial):
    """A stable parting, and a meant place and another one of one class: so no saying fits just the meant places."""

    def __init__(self, parting, one, other):
        Denial.__init__(self, "cut", parting, one, other)
        self.parting, self.one, self.other = self.parts


class Compare:
    """The classes of the rooms of a book in a way, and its meant places as a mask."""

    def __init__(self, book, way):
        need_book(book)
        need_way(way, COMPARING_WAYS)
        need_few_places(book.rooms)
        self.field = Field(book.rooms)
        self.maker = ClassMaker(self.field, way)
        self.meant = self.field.mask_of_places(book.meant_places())


def say_compared(book, way):
    """A Compared, if the meant places are said by comparing; otherwise a Cut."""
    compare = Compare(book, way)
    mixed = compare.maker.first_mixed(compare.meant)
    if mixed is None:
        return Compared(compare.maker.saying_for(compare.meant))
    one, other = mixed
    places = compare.field.all_places
    return Cut(compare.maker.told_classes(), places[one], places[other])


def class_sayings(rooms, way):
    """For each class of the coarsest stable parting a saying that fits just its places."""
    need_rooms(rooms)
    need_way(way, COMPARING_WAYS)
    need_few_places(rooms)
    maker = ClassMaker(Field(rooms), way)
    return tuple([maker.saying_for(mask) for mask, _ in maker.classes])


def around_compared(book, way):
    """The book of the least crowds that are said by comparing and hold the meant things."""
    compare = Compare(book, way)
    around = 0
    for mask, _ in compare.maker.classes:
        if mask & compare.meant:
            around = around | mask
    return book.changed(meant=compare.field.crowds_in(around))
