"""Ties: sayings of couples of things."""

from sayable.checks import is_name
from sayable.errors import BadTie, NotLet
from sayable.needs import need_saying
from sayable.parts import TIE_KINDS, checked_parts, items_with, joined_parts, one_form, parts_text, read_parts


class Tie:
    """A tie: its parts, in one form; the last one is the tie."""

    def __init__(self, parts):
        found = checked_parts(parts, TIE_KINDS)
        if found is None:
            raise BadTie("parts")
        self.parts = tuple(found)
        self.words = items_with(found, TIE_KINDS, "word")
        self.links = items_with(found, TIE_KINDS, "link")
        self.kinds = tuple(sorted({part[0] for part in found}))

    def __len__(self):
        return len(self.parts)

    def __eq__(self, other):
        return isinstance(other, Tie) and self.parts == other.parts

    def __str__(self):
        return str(parts_text(self.parts))

    def __and__(self, other):
        if not isinstance(other, Tie):
            raise BadTie("other")
        return Tie(joined_parts(self.parts, other.parts, "both", TIE_KINDS))

    def __or__(self, other):
        if not isinstance(other, Tie):
            raise BadTie("other")
        return Tie(joined_parts(self.parts, other.parts, "either", TIE_KINDS))

    def __invert__(self):
        return Tie([*self.parts, ("not", len(self.parts) - 1)])

    @classmethod
    def read(cls, text):
        """The tie with this text."""
        return cls(read_parts(text, TIE_KINDS))


def need_tie(tie, part):
    """Raises unless it is a Tie."""
    if not isinstance(tie, Tie):
        raise BadTie(part)


def same_pairs():
    """The tie that fits each thing with itself."""
    return Tie([("same",)])


def any_pairs():
    """The tie that fits each couple."""
    return Tie([("any",)])


def no_pairs():
    """The tie that fits no couple."""
    return Tie([("none",)])


def link_pairs(link):
    """The tie that fits what a link leads from with what it leads to."""
    if not is_name(link):
        raise BadTie("link")
    return Tie([("link", link)])


def word_pairs(name):
    """The tie that fits each thing of which a word holds with itself."""
    if not is_name(name):
        raise BadTie("name")
    return Tie([("of", name)])


def turned_tie(tie):
    """The tie that fits the couples of a tie, turned."""
    need_tie(tie, "tie")
    return Tie([*tie.parts, ("turned", len(tie.parts) - 1)])


def over_tie(one, other):
    """The tie that fits what one tie fits with some thing that the other fits with the second one."""
    need_tie(one, "one")
    need_tie(other, "other")
    return Tie(joined_parts(one.parts, other.parts, "over", TIE_KINDS))


def as_tie(saying):
    """A tie that fits each thing that a saying fits with itself, and nothing else."""
    need_saying(saying)
    for part in saying.parts:
        if part[0] in ("least", "top", "above"):
            raise NotLet("not.back", part[0])
    maker = SelfMaker()
    for part in saying.parts:
        maker.put_as_tie(part)
    return Tie(one_form(maker.parts, TIE_KINDS))


class SelfMaker:
    """Parts of a tie for the parts of a saying: each fits the things that it fits with themselves."""

    def __init__(self):
        self.parts = []
        self.last = []

    def _put(self, *part):
        self.parts.append(part)
        return len(self.parts) - 1

    def _without(self, number):
        """The things with themselves that a part does not fit so."""
        return self._put("both", self._put("same"), self._put("not", number))

    def _leading(self, link, direction, number):
        """The things with themselves from which a link leads to one that a part fits so."""
        led = self._put("link", link)
        if direction == "back":
            led = self._put("turned", led)
        led = self._put("over", led, number)
        return self._put("both", self._put("same"), self._put("over", led, self._put("any")))

    def put_as_tie(self, part):
        """Puts what stands for the next part of the saying."""
        kind = part[0]
        if kind == "thing":
            number = self._put("same")
        elif kind == "nothing":
            number = self._put("none")
        elif kind == "word":
            number = self._put("of", part[1])
        elif kind == "not":
            number = self._without(self.last[part[1]])
        elif kind == "some":
            number = self._leading(part[1], part[2], self.last[part[3]])
        elif kind == "every":
            lacking = self._leading(part[1], part[2], self._without(self.last[part[3]]))
            number = self._without(lacking)
        else:
            number = self._put(kind, self.last[part[1]], self.last[part[2]])
        self.last.append(number)
