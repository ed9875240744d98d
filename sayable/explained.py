"""Words that are explained by other words, and sets of words that are enough."""

from sayable.books import Book
from sayable.checks import is_list
from sayable.errors import BadRoom
from sayable.lists import need_once
from sayable.needs import need_rooms
from sayable.said import least_depth, say_book
from sayable.speech import speaker_of
from sayable.ways import need_way


def word_places(rooms, word):
    """The places of which a word holds."""
    return [(index, thing) for index, room in enumerate(rooms) for thing in room.things_of(word)]


def words_without(rooms, names):
    """The words of the stock that are none of the names, ascending."""
    return [word for word in rooms[0].words if word not in names]


def first_lacking(rooms, names, speaker):
    """The first other word that is not explained by the names, with the Speech of its things; None if there is none.

    The speaker is that of the rooms cut to the names.
    """
    for word in words_without(rooms, names):
        speech = speaker.speech(word_places(rooms, word))
        if not speech.is_said():
            return word, speech
    return None


def explain_word(rooms, name, way):
    """What say_book tells of the things of a word, in the rooms without this word."""
    return say_book(Book.of_word(rooms, name), way)


def need_names(rooms, names):
    """Raises unless it is a list of different words of the stock."""
    if not is_list(names):
        raise BadRoom("names")
    for name in names:
        rooms[0].word_mask(name)
    need_once(names)


def is_enough(rooms, names, way):
    """Whether each word that is none of the names is explained by them."""
    need_rooms(rooms)
    need_names(rooms, names)
    need_way(way)
    if not words_without(rooms, names):
        return True
    speaker = speaker_of(rooms, way)
    return first_lacking(rooms, names, speaker.with_words(names)) is None


def needless_words(rooms, way):
    """The words that are explained by all others, ascending."""
    need_rooms(rooms)
    need_way(way)
    return tuple([word for word in rooms[0].words if least_depth(Book.of_word(rooms, word), way) is not None])
