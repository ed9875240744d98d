"""What the lines of a desk keep, and what they answer."""

from sayable.around import least_around
from sayable.books import Book
from sayable.cheapest import cheapest_words
from sayable.desklines import kind_of
from sayable.explained import explain_word
from sayable.fewnames import fewest_names
from sayable.leastwords import fewest_words
from sayable.priced import Priced
from sayable.reads import reading_of
from sayable.said import said_ways, say_book
from sayable.tied import tie_pairs


def names_or_none(names):
    """The names as one text, or none."""
    return " ".join(names) if names else "none"


def _keep_text(items):
    return items[1], "set"


def _keep_book(items):
    rows = items[1]
    return _with_count(Book([room for room, _ in rows], [crowd for _, crowd in rows]))


def _keep_priced(items):
    return Priced(items[1]), "set"


def _keep_said(items):
    _, book, way = items
    return _with_depth(say_book(book, way))


def _keep_explained(items):
    _, name, way, rooms = items
    return _with_depth(explain_word(rooms, name, way))


def _keep_around(items):
    _, book, way = items
    return _with_count(least_around(book, way))


def _with_count(book):
    return book, str(len(book.meant_places()))


def _with_depth(paper):
    """The saying of a Said, and its depth; None where there is none to be kept."""
    return (paper.saying, f"said {paper.saying.depth}") if paper else (None, "unsaid")


KEEPING = {
    "set": _keep_text,
    "book": _keep_book,
    "priced": _keep_priced,
    "say": _keep_said,
    "explain": _keep_explained,
    "around": _keep_around,
}


def kept_by(word, items):
    """The value that a line keeps, None for none, and its answer."""
    keep = KEEPING[word]
    return keep(items)


def _show(items):
    kind = kind_of(items[0])
    return kind if kind in ("book", "priced") else str(items[0])


def _read(items):
    room, saying = items
    return names_or_none(reading_of(room, saying))


def _pairs(items):
    room, tie = items
    return str(len(tie_pairs(room, tie)))


def _ways(items):
    return names_or_none(said_ways(items[0]))


def _stock(items):
    way, rooms = items
    least = fewest_words(rooms, way)
    return " ".join(["stock", *least.words])


def _names(items):
    way, room = items
    few = fewest_names(room, way)
    return f"names {len(few.things)}"


def _cheapest(items):
    book, priced = items
    paper = cheapest_words(book, priced)
    return f"price {paper.price}" if paper else "none"


ASKING = {
    "show": _show,
    "read": _read,
    "pairs": _pairs,
    "ways": _ways,
    "stock": _stock,
    "names": _names,
    "cheapest": _cheapest,
}


def answer_to(word, items):
    """The answer to a line that keeps nothing."""
    ask = ASKING[word]
    return ask(items)
