"""Sayings: what picks things out of a room."""

from sayable.checks import is_name, is_within
from sayable.errors import BadNumbers, BadSaying
from sayable.parts import LEAST_MANY, MOST_MANY, SAYING_KINDS, checked_parts, folded_parts, items_with
from sayable.parts import joined_parts, part_depths, parts_text, read_parts


class Saying:
    """A saying: its parts, in one form; the last one is the saying."""

    def __init__(self, parts):
        found = checked_parts(parts, SAYING_KINDS)
        if found is None:
            raise BadSaying("parts")
        self.parts = tuple(found)
        self.depth = part_depths(found, SAYING_KINDS)[-1]
        self.words = items_with(found, SAYING_KINDS, "word")
        self.links = items_with(found, SAYING_KINDS, "link")
        self.scales = items_with(found, SAYING_KINDS, "scale")
        self.kinds = tuple(sorted({part[0] for part in found}))
        self.is_back = "back" in items_with(found, SAYING_KINDS, "direction")

    def __len__(self):
        return len(self.parts)

    def __eq__(self, other):
        return isinstance(other, Saying) and self.parts == other.parts

    def __str__(self):
        return str(parts_text(self.parts))

    def __and__(self, other):
        if not isinstance(other, Saying):
            raise BadSaying("other")
        return Saying(joined_parts(self.parts, other.parts, "both", SAYING_KINDS))

    def __or__(self, other):
        if not isinstance(other, Saying):
            raise BadSaying("other")
        return Saying(joined_parts(self.parts, other.parts, "either", SAYING_KINDS))

    def __invert__(self):
        return Saying([*self.parts, ("not", len(self.parts) - 1)])

    @classmethod
    def read(cls, text):
        """The saying with this text."""
        return cls(read_parts(text, SAYING_KINDS))


def any_thing():
    """The saying that fits each thing."""
    return Saying([("thing",)])


def no_thing():
    """The saying that fits no thing."""
    return Saying([("nothing",)])


def of_word(name):
    """The saying that fits the things of which a word holds."""
    if not is_name(name):
        raise BadSaying("name")
    return Saying([("word", name)])


def both_of(*sayings):
    """The saying that fits what all of these fit."""
    return _folded(sayings, "both", "thing")


def either_of(*sayings):
    """The saying that fits what one of these fits."""
    return _folded(sayings, "either", "nothing")


def _folded(sayings, kind, empty):
    if not all([isinstance(saying, Saying) for saying in sayings]):
        raise BadSaying("sayings")
    if not sayings:
        return Saying([(empty,)])
    return Saying(folded_parts([saying.parts for saying in sayings], kind, SAYING_KINDS))


def _over(kind, items, link, saying, back):
    """The saying of a kind that leads on by a link, with the items ahead of the link."""
    if not is_name(link):
        raise BadSaying("link")
    if not isinstance(saying, Saying):
        raise BadSaying("saying")
    direction = "back" if back else "on"
    return Saying([*saying.parts, (kind, *items, link, direction, len(saying.parts) - 1)])


def some_of(link, saying, back=False):
    """The saying that fits what a link leads from to something that a saying fits."""
    return _over("some", [], link, saying, back)


def every_of(link, saying, back=False):
    """The saying that fits what a link leads from to nothing that a saying does not fit."""
    return _over("every", [], link, saying, back)


def at_least(many, link, saying, back=False):
    """The saying that fits what a link leads from to at least so many that a saying fits."""
    if not is_within(many, LEAST_MANY, MOST_MANY):
        raise BadNumbers("many")
    return _over("least", [many], link, saying, back)


def top_of(scale, saying):
    """The saying that fits the greatest, on a scale, of what a saying fits."""
    if not is_name(scale):
        raise BadSaying("scale")
    if not isinstance(saying, Saying):
        raise BadSaying("saying")
    return Saying([*saying.parts, ("top", scale, len(saying.parts) - 1)])


def above_of(scale, name):
    """The saying that fits what is greater, on a scale, than most others of a word."""
    if not is_name(scale):
        raise BadSaying("scale")
    if not is_name(name):
        raise BadSaying("name")
    return Saying([("above", scale, name)])
