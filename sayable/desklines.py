"""Reading the lines of a desk: the first word, and what the others tell."""

from sayable.books import Book
from sayable.changes import DEED_ITEMS
from sayable.checks import is_name, is_stem
from sayable.errors import BadText
from sayable.priced import GREATEST_PRICE
from sayable.rooms import Room
from sayable.sayings import Saying
from sayable.texts import Reader, is_written
from sayable.ties import Tie
from sayable.ways import is_way

# For each first word what stands behind it: each item is read from one word or more.
LINES = {
    "set": ("stem", "text"),
    "book": ("stem", "crowds"),
    "priced": ("stem", "rows"),
    "say": ("stem", "book", "way"),
    "explain": ("stem", "name", "way", "rooms"),
    "around": ("stem", "book", "way"),
    "open": ("room",),
    "watch": ("name", "saying"),
    "do": ("deed",),
    "undo": (),
    "again": (),
    "show": ("kept",),
    "read": ("room", "saying"),
    "pairs": ("room", "tie"),
    "ways": ("book",),
    "stock": ("way", "rooms"),
    "names": ("way", "room"),
    "cheapest": ("book", "priced"),
    "house": (),
}


def kind_of(value):
    """The kind of a value that a desk keeps."""
    if isinstance(value, Room):
        return "room"
    if isinstance(value, Saying):
        return "saying"
    if isinstance(value, Tie):
        return "tie"
    return "book" if isinstance(value, Book) else "priced"


def read_line(line, kept):
    """The first word of a line, and the list of the items behind it; kept names stand for their values."""
    reader = Reader(line)
    word = reader.now()
    if word not in LINES:
        reader.fail()
    reader.step()
    items = [_read_item(reader, code, kept) for code in LINES[word]]
    if reader.now() is not None:
        reader.fail()
    return word, items


def _read_item(reader, code, kept):
    if code == "stem":
        return _read_word(reader, is_stem(reader.now()))
    if code == "name":
        return _read_word(reader, is_name(reader.now()))
    if code == "way":
        return _read_word(reader, is_way(reader.now()))
    if code == "text":
        return _read_text(reader)
    if code == "crowds":
        return _read_crowds(reader, kept)
    if code == "rows":
        return _read_rows(reader, kept)
    if code == "rooms":
        return _read_rooms(reader, kept)
    if code == "deed":
        return _read_deed(reader)
    return _read_kept(reader, code, kept)


def _read_word(reader, can_stand):
    """The word at hand, if it can stand."""
    if not can_stand:
        reader.fail()
    word = reader.now()
    reader.step()
    return word


def _read_kept(reader, code, kept):
    """What the name at hand keeps, of the kind that is wanted; kept: of any."""
    name = reader.now()
    if name not in kept or (code != "kept" and kind_of(kept[name]) != code):
        reader.fail()
    reader.step()
    return kept[name]


def _read_text(reader):
    """What the class of the kind at hand reads from the rest of the line."""
    kind = _read_word(reader, reader.now() in ("room", "saying", "tie"))
    ahead = reader.at
    text = " ".join(reader.words[ahead:])
    reader.at = len(reader.words)
    try:
        return _read_value(kind, text)
    except BadText as error:
        raise BadText(0, ahead + error.word)


def _read_value(kind, text):
    if kind == "room":
        return Room.read(text)
    if kind == "saying":
        return Saying.read(text)
    return Tie.read(text)


def _read_crowds(reader, kept):
    """The pairs of each room and a list of names."""
    found = []
    while True:
        room = _read_kept(reader, "room", kept)
        crowd = []
        while reader.now() not in (",", None):
            crowd.append(_read_word(reader, is_name(reader.now())))
        found.append((room, crowd))
        if reader.now() is None:
            return found
        reader.step()


def _read_rows(reader, kept):
    """The pairs of each saying and its price."""
    found = []
    while True:
        word = reader.now()
        price = _read_word(reader, is_written(word, False) and int(word) <= GREATEST_PRICE)
        found.append((_read_kept(reader, "saying", kept), int(price)))
        if reader.now() is None:
            return found
        _read_word(reader, reader.now() == ",")


def _read_rooms(reader, kept):
    """One room or more, up to the end of the line."""
    found = [_read_kept(reader, "room", kept)]
    while reader.now() is not None:
        found.append(_read_kept(reader, "room", kept))
    return found


def _read_deed(reader):
    """A deed, whether or not it can be done."""
    kind = _read_word(reader, reader.now() in DEED_ITEMS)
    names = DEED_ITEMS[kind] - 1 if kind == "number" else DEED_ITEMS[kind]
    items = [kind]
    for _ in range(names):
        items.append(_read_word(reader, is_name(reader.now())))
    if kind == "number":
        number = _read_word(reader, reader.now() == "none" or is_written(reader.now(), True))
        items.append(None if number == "none" else int(number))
    return tuple(items)
