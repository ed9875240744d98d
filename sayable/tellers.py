"""Tellers: what they tell of a book with their own words and links, and upon which crowds they agree."""

from sayable.alike import LIKE_WAYS, like_mask
from sayable.around import least_around
from sayable.bits import bits_of, mask_of
from sayable.books import Book, need_book
from sayable.checks import is_list
from sayable.errors import BadTeller, TooMany
from sayable.lists import need_once
from sayable.papers import Paper
from sayable.speech import speaker_of
from sayable.support import closed_rows
from sayable.ways import need_way

MOST_TELLERS = 8


def is_teller(value):
    """Whether any value is a pair of two lists."""
    return is_list(value) and len(value) == 2 and is_list(value[0]) and is_list(value[1])


def need_stock_of(room, teller):
    """Raises unless a teller has different words and different links of the stock."""
    words, links = teller
    for word in words:
        room.word_mask(word)
    need_once(words)
    for link in links:
        room.link_rows(link)
    need_once(links)


def need_tellers(room, tellers):
    """Raises unless it is a list of tellers whose words and links are of the stock."""
    if not is_list(tellers) or not tellers or not all([is_teller(teller) for teller in tellers]):
        raise BadTeller("tellers")
    for teller in tellers:
        need_stock_of(room, teller)


def need_few_tellers(tellers):
    """Raises if there are more tellers than may be."""
    if len(tellers) > MOST_TELLERS:
        raise TooMany("tellers", MOST_TELLERS)


def cut_rooms(rooms, teller):
    """The rooms with the words and links of a teller alone."""
    words, links = teller
    return [room.cut(words, links, []) for room in rooms]


def passed_on(book, tellers, way):
    """For each teller, in order, the crowds that he tells of what the one ahead of him told."""
    need_book(book)
    need_tellers(book.rooms[0], tellers)
    need_way(way)
    need_few_tellers(tellers)
    told = []
    meant = book.meant
    for teller in tellers:
        around = least_around(Book(cut_rooms(book.rooms, teller), meant), way)
        meant = around.meant
        told.append(meant)
    return tuple(told)


class Agreed(Paper):
    """Crowds that are each teller's, steps that lead to what is not meant of them, and what shows both."""

    def __init__(self, meant, steps, likenesses, told):
        Paper.__init__(self, "agreed", meant, steps, likenesses, told)
        self.meant, self.steps, self.likenesses, self.told = self.parts


def agreed_crowds(book, tellers, way):
    """The Agreed of the least crowds that hold the meant things and are each teller's."""
    need_book(book)
    need_tellers(book.rooms[0], tellers)
    need_way(way, LIKE_WAYS)
    need_few_tellers(tellers)
    speakers = [speaker_of(cut_rooms(book.rooms, teller), way) for teller in tellers]
    heard = [speaker.speech(book.meant_places()) for speaker in speakers]
    field, meant = heard[0].field, heard[0].meant
    steps = _steps_from(meant, [speech.rounds.table for speech in heard])
    agreed = meant | mask_of([number for number, _, _ in steps])
    told = []
    for speaker in speakers:
        speech = speaker.speech(field.places_in(agreed))
        told.append(speech.told_saying())
    likenesses = [_likeness_for(speech.rounds, index, steps) for index, speech in enumerate(heard)]
    places = field.all_places
    named = [(places[number], index, places[one]) for number, index, one in steps]
    return Agreed(field.crowds_in(agreed), named, likenesses, told)


def _steps_from(meant, tables):
    """Steps from the meant places, by numbers: of each that is reached, the teller, and from where.

    The tables tell for each teller when the pairs of places part.
    """
    reached = bits_of(meant)
    known = meant
    steps = []
    turn = 0
    while turn < len(reached):
        one = reached[turn]
        turn += 1
        for index, table in enumerate(tables):
            fresh = like_mask(table[one], None) & ~known
            known = known | fresh
            for number in bits_of(fresh):
                steps.append((number, index, one))
                reached.append(number)
    return steps


def _likeness_for(rounds, index, steps):
    """Closed pairs of places that have those of the steps of the teller with this index."""
    asked = {}
    for number, teller, one in steps:
        if teller == index:
            asked[one] = asked.get(one, 0) | 1 << number
    rows = closed_rows(rounds, asked)
    places = rounds.field.all_places
    return [(places[one], other) for one in sorted(rows) for other in rounds.field.places_in(rows[one])]
