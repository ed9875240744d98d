"""The crowds that are said around the meant things of a book, and within them."""

from sayable.alike import LIKE_WAYS, like_mask
from sayable.books import need_book
from sayable.speech import speech_of
from sayable.ways import need_way


def least_around(book, way):
    """The book with the least crowds that are said in the way and hold the meant things."""
    need_book(book)
    need_way(way)
    speech = speech_of(book, way)
    mask = 0
    for one in speech.points:
        mask = mask | like_mask(speech.rounds.table[one], None)
    return book.changed(meant=speech.field.crowds_in(mask))


def greatest_inside(book, way):
    """The book with the greatest crowds that are said in the way and lie within the meant things."""
    need_book(book)
    need_way(way, LIKE_WAYS)
    speech = speech_of(book, way)
    mask = 0
    for one in speech.points:
        if like_mask(speech.rounds.table[one], None) & ~speech.meant == 0:
            mask = mask | 1 << one
    return book.changed(meant=speech.field.crowds_in(mask))
