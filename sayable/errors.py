"""The errors of the package, each with its fields as they were passed."""


def _shown(value):
    """A short word for any value: its own text could be endless, or could fail."""
    if isinstance(value, str):
        return value
    if isinstance(value, int) and -1000000000 < value < 1000000000:
        return str(value)
    return f"a value of the class {value.__class__.__name__}"


class SayError(ValueError):
    """The base of all errors of the package."""


class BadRoom(SayError):
    """A part of what was passed is no room, or makes none."""

    def __init__(self, part):
        SayError.__init__(self, f"no room: {_shown(part)}")
        self.part = part


class BadDeed(SayError):
    """What was passed is no deed, or it cannot be done."""

    def __init__(self, part):
        SayError.__init__(self, f"no deed that can be done: {_shown(part)}")
        self.part = part


class BadLoose(SayError):
    """What was passed makes no loose room."""

    def __init__(self, part):
        SayError.__init__(self, f"no loose room: {_shown(part)}")
        self.part = part


class BadSaying(SayError):
    """What was passed is no saying, or makes none."""

    def __init__(self, part):
        SayError.__init__(self, f"no saying: {_shown(part)}")
        self.part = part


class BadBook(SayError):
    """What was passed is no book, or makes none."""

    def __init__(self, part):
        SayError.__init__(self, f"no book: {_shown(part)}")
        self.part = part


class BadPlace(SayError):
    """What was passed is no place, or no point, of the rooms."""

    def __init__(self, part):
        SayError.__init__(self, f"no place of these rooms: {_shown(part)}")
        self.part = part


class BadTie(SayError):
    """What was passed is no tie, or makes none."""

    def __init__(self, part):
        SayError.__init__(self, f"no tie: {_shown(part)}")
        self.part = part


class BadPriced(SayError):
    """What was passed is no priced list, or makes none."""

    def __init__(self, part):
        SayError.__init__(self, f"no priced list: {_shown(part)}")
        self.part = part


class BadTalk(SayError):
    """What was passed belongs to no talk."""

    def __init__(self, part):
        SayError.__init__(self, f"no talk: {_shown(part)}")
        self.part = part


class BadTeller(SayError):
    """What was passed is no teller."""

    def __init__(self, part):
        SayError.__init__(self, f"no teller: {_shown(part)}")
        self.part = part


class BadTranslation(SayError):
    """What was passed is no translation, or makes none."""

    def __init__(self, part):
        SayError.__init__(self, f"no translation: {_shown(part)}")
        self.part = part


class BadNumbers(SayError):
    """What was passed is no number that is asked for here."""

    def __init__(self, part):
        SayError.__init__(self, f"no such number: {_shown(part)}")
        self.part = part


class Missing(SayError):
    """A value is none here; raised by the classes below alone."""

    def __init__(self, name):
        SayError.__init__(self, f"not here: {_shown(name)}")
        self.name = name


class NoThing(Missing):
    """A value is no thing of the room."""


class NoWord(Missing):
    """A value is no word of the room."""


class NoLink(Missing):
    """A value is no link of the room."""


class NoScale(Missing):
    """A value is no scale of the room."""


class NoWay(Missing):
    """A value is no way of speaking that is let here."""


class NoName(Missing):
    """A value is no name that is kept here."""


class NotLet(SayError):
    """A saying has a part of a kind that the way does not let."""

    def __init__(self, way, kind):
        SayError.__init__(self, f"the way {_shown(way)} does not let {_shown(kind)}")
        self.way = way
        self.kind = kind


class Twice(SayError):
    """A name stands twice."""

    def __init__(self, name):
        SayError.__init__(self, f"twice: {_shown(name)}")
        self.name = name


class Unlike(SayError):
    """What must agree does not."""

    def __init__(self, what):
        SayError.__init__(self, f"unlike: {_shown(what)}")
        self.what = what


class Nothing(SayError):
    """There is nothing to be done."""


class TooMany(SayError):
    """There are more than are let."""

    def __init__(self, what, most):
        SayError.__init__(self, f"too many: {_shown(what)}, at most {_shown(most)}")
        self.what = what
        self.most = most


class BadText(SayError):
    """A word of a text cannot stand where it stands."""

    def __init__(self, line, word):
        SayError.__init__(self, f"line {_shown(line)}: word {_shown(word)} cannot stand")
        self.line = line
        self.word = word


class BadLine(SayError):
    """A line of a desk raised an error."""

    def __init__(self, line, error):
        SayError.__init__(self, f"line {_shown(line)} raised {_shown(error)}")
        self.line = line
        self.error = error
