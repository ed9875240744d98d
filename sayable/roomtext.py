"""The text of a room, written and read."""

from sayable.checks import is_name
from sayable.roomcheck import MOST_LINKS, MOST_SCALES, MOST_THINGS, MOST_WORDS
from sayable.texts import Reader, is_written


def room_words(room):
    """The words of the text of a room."""
    words = [[word, *room.things_of(word)] for word in room.words]
    links = [_link_words(room, link) for link in room.links]
    scales = [_scale_words(room, scale) for scale in room.scales]
    return [*room.things, ";", *_with_between(words), ";", *_with_between(links), ";", *_with_between(scales)]


def _link_words(room, link):
    return [link] + [thing for pair in room.pairs_of(link) for thing in pair]


def _scale_words(room, scale):
    told = [scale]
    for thing in room.things:
        number = room.number_of(scale, thing)
        if number is not None:
            told.append(thing)
            told.append(str(number))
    return told


def _with_between(rows):
    told = []
    for row in rows:
        if told:
            told.append("/")
        told.extend(row)
    return told


def read_room(text):
    """What a text tells: things, words, links and scales, as a Room takes them."""
    reader = Reader(text)
    at = _read_things(reader)
    words = _read_section(reader, at, _read_word_things, MOST_WORDS)
    _pass_sign(reader)
    links = _read_section(reader, at, _read_pairs, MOST_LINKS)
    _pass_sign(reader)
    scales = _read_section(reader, at, _read_numbers, MOST_SCALES)
    if reader.now() is not None:
        reader.fail()
    return list(at), words, links, scales


def _pass_sign(reader):
    if reader.now() != ";":
        reader.fail()
    reader.step()


def _read_things(reader):
    at = {}
    while not at or reader.now() != ";":
        thing = reader.now()
        if not is_name(thing) or thing in at or len(at) == MOST_THINGS:
            reader.fail()
        at[thing] = len(at)
        reader.step()
    reader.step()
    return at


def _is_over(reader):
    return reader.now() in (";", None)


def _read_section(reader, at, read_told, most):
    """The entries up to the end of a section: names, ascending, and what is told of them."""
    found = {}
    ahead = ""
    while ahead or not _is_over(reader):
        name = reader.now()
        if not is_name(name) or name <= ahead:
            reader.fail()
        reader.step()
        found[name] = read_told(reader, at)
        ahead = name
        if _is_over(reader):
            break
        if len(found) == most:
            reader.fail()
        reader.step()
    return found


def _is_told(reader):
    """Whether the word at hand still belongs to the entry."""
    return not _is_over(reader) and reader.now() != "/"


def _read_thing(reader, at, least):
    """Reads a thing that is not ahead of the one with the number least."""
    thing = reader.now()
    if thing not in at or at[thing] < least:
        reader.fail()
    reader.step()
    return thing


def _read_word_things(reader, at):
    things = []
    least = 0
    while _is_told(reader):
        things.append(_read_thing(reader, at, least))
        least = at[things[-1]] + 1
    return things


def _read_pairs(reader, at):
    pairs = []
    least, behind = 0, 0
    while _is_told(reader):
        one = _read_thing(reader, at, least)
        other = _read_thing(reader, at, behind if at[one] == least else 0)
        least, behind = at[one], at[other] + 1
        pairs.append((one, other))
    return pairs


def _read_numbers(reader, at):
    numbers = {}
    least = 0
    while _is_told(reader):
        thing = _read_thing(reader, at, least)
        least = at[thing] + 1
        if not is_written(reader.now(), True):
            reader.fail()
        numbers[thing] = int(reader.now())
        reader.step()
    return numbers
