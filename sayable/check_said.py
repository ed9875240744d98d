"""Reading papers of what is said: whether a Said or an Unsaid is right."""

from sayable.books import need_book
from sayable.errors import TooMany
from sayable.fields import Field
from sayable.needs import has_few_places
from sayable.pairread import PlacePairs, PointPairs, are_closed_pairs, are_stages
from sayable.pointwalk import PointWalk, points_about
from sayable.reads import are_readings
from sayable.said import Said, Unsaid
from sayable.sayings import Saying
from sayable.ways import base_of, need_way, way_lets


def shows_said(book, way, value):
    """Whether any value is a right Said or Unsaid for the book in the way."""
    need_book(book)
    need_way(way)
    if not isinstance(value, (Said, Unsaid)) or not _is_asked(book, way):
        return False
    pairs = _pairs_of(Field(book.rooms), way)
    if isinstance(value, Said):
        return is_said_by(book, way, value.saying) and _shows_depth(book, pairs, value)
    rows = pairs.told_rows(value.pairs)
    return rows is not None and _have_pair(book, pairs, rows, value) and are_closed_pairs(pairs, rows)


def _is_plain(way):
    return base_of(way) == "plain"


def _pairs_of(field, way):
    return PointPairs(field, way) if _is_plain(way) else PlacePairs(field, way)


def _is_asked(book, way):
    """Whether the book is none for which say_book raises TooMany."""
    if not has_few_places(book.rooms):
        return False
    if _is_plain(way) and book.meant_places():
        field = Field(book.rooms)
        try:
            points_about(PointWalk(field, way), field.mask_of_places(book.meant_places()))
        except TooMany:
            return False
    return True


def is_said_by(book, way, saying):
    """Whether any value is a Saying, with words and links of the stock alone, that says the book in the way."""
    if not isinstance(saying, Saying) or not way_lets(way, saying):
        return False
    return are_readings(book.rooms, saying, book.meant)


def _shows_depth(book, pairs, value):
    """Whether the stages of a Said, whose saying is right, show that no saying less deep is."""
    stages = value.stages
    if not isinstance(stages, tuple) or len(stages) != value.saying.depth:
        return False
    if not stages:
        return value.point is None and value.place is None
    told = []
    for stage in stages:
        rows = pairs.told_rows(stage)
        if rows is None:
            return False
        told.append(rows)
    return _have_pair(book, pairs, told[-1], value) and are_stages(pairs, told)


def _have_pair(book, pairs, rows, value):
    """Whether the rows have the pair of the paper: one of the points of the book, and a place that is not meant."""
    if pairs.told_rows([(value.point, value.place)]) is None or not pairs.have_pair(rows, value.point, value.place):
        return False
    meant = book.meant_places()
    asked = [meant] if isinstance(pairs, PointPairs) else [(place,) for place in meant]
    return value.point in asked and value.place not in meant
