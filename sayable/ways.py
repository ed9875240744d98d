"""The twelve ways of speaking, and what they let."""

from sayable.errors import NotLet, NoWay
from sayable.needs import need_saying

BACK = ".back"
WAYS = ("plain", "either", "every", "many", "not", "full", "plain.back", "either.back", "every.back", "many.back",
        "not.back", "full.back")
ALL_LET = ("thing", "nothing", "word", "both", "some")
ALSO_LET = {
    "plain": (),
    "either": ("either",),
    "every": ("either", "every"),
    "many": ("either", "least"),
    "not": ("either", "every", "not"),
    "full": ("either", "every", "least", "not"),
}


def all_ways():
    """The twelve ways, in order."""
    return WAYS


def is_way(value):
    """Whether any value is a way."""
    return isinstance(value, str) and value in WAYS


def need_way(way, ways=WAYS):
    """Raises NoWay unless it is one of these ways."""
    if not is_way(way) or way not in ways:
        raise NoWay(way)


def reads_back(way):
    """Whether a way reads links back, too."""
    return way.endswith(BACK)


def base_of(way):
    """The way that lets the same kinds, and does not read back."""
    return way.removesuffix(BACK)


def kinds_of(way):
    """The kinds of parts that a way lets."""
    return ALL_LET + ALSO_LET[base_of(way)]


def _first_not_let(way, saying):
    """What the way does not let of the first part that it does not let; None if it lets all."""
    kinds = kinds_of(way)
    for part in saying.parts:
        if part[0] not in kinds:
            return part[0]
        if part[0] in ("some", "every", "least") and part[-2] == "back" and not reads_back(way):
            return "back"
    return None


def way_lets(way, saying):
    """Whether a way lets a saying."""
    need_way(way)
    need_saying(saying)
    return _first_not_let(way, saying) is None


def need_let(way, saying):
    """Raises NotLet for the first part that the way does not let."""
    need_way(way)
    need_saying(saying)
    kind = _first_not_let(way, saying)
    if kind is not None:
        raise NotLet(way, kind)


def ways_letting(saying):
    """The ways that let a saying, in order."""
    need_saying(saying)
    return tuple([way for way in WAYS if _first_not_let(way, saying) is None])


def is_way_below(one, other):
    """Whether each saying that the one way lets is let by the other one."""
    need_way(one)
    need_way(other)
    if reads_back(one) and not reads_back(other):
        return False
    kinds = kinds_of(other)
    return all([kind in kinds for kind in kinds_of(one)])
