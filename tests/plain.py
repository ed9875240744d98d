"""The document's own words, read step by step, without any haste: what the package is compared with."""

import itertools

from sayable.sayings import Saying

LET = {"plain": (), "either": ("either",), "every": ("either", "every"), "many": ("either", "least"),
       "not": ("either", "every", "not"), "full": ("either", "every", "least", "not")}
ALL_KINDS = ["thing", "nothing", "word", "both", "either", "not", "some", "every", "least", "top", "above"]
TEN = [base + back for back in ("", ".back") for base in ("either", "every", "many", "not", "full")]
TWELVE = [base + back for back in ("", ".back") for base in LET]


def kinds_let(way):
    return ["thing", "nothing", "word", "both", "some", *LET[way.removesuffix(".back")]]


def led(room, link, thing, direction):
    return room.leads(link, thing, direction == "back")


def fits(room, parts, at, thing, more):
    """Whether a part fits a thing, by the table of point 6."""
    part = parts[at]
    kind = part[0]

    def holds(word):
        return thing in more[word] if word in more else room.holds(word, thing)

    if kind in ("thing", "nothing"):
        return kind == "thing"
    if kind == "word":
        return holds(part[1])
    if kind == "both":
        return fits(room, parts, part[1], thing, more) and fits(room, parts, part[2], thing, more)
    if kind == "either":
        return fits(room, parts, part[1], thing, more) or fits(room, parts, part[2], thing, more)
    if kind == "not":
        return not fits(room, parts, part[1], thing, more)
    if kind in ("some", "every", "least"):
        heads = [fits(room, parts, part[-1], head, more) for head in led(room, part[-3], thing, part[-2])]
        return any(heads) if kind == "some" else all(heads) if kind == "every" else sum(heads) >= part[1]
    scale = part[1]
    number = room.number_of(scale, thing)
    if number is None:
        return False
    if kind == "top":
        others = [room.number_of(scale, t) for t in room if fits(room, parts, part[2], t, more)]
        return fits(room, parts, part[2], thing, more) and not any(n is not None and n > number for n in others)
    word = part[2]
    having = [t for t in room if (t in more[word] if word in more else room.holds(word, t))]
    others = [room.number_of(scale, t) for t in having if t != thing and room.number_of(scale, t) is not None]
    return thing in having and sum(n < number for n in others) > len(others) / 2


def reading(room, saying, more=None):
    return tuple(t for t in room if fits(room, saying.parts, len(saying.parts) - 1, t, more or {}))


def places(rooms):
    return [(k, t) for k, room in enumerate(rooms) for t in room]


def heads_of(rooms, link, place, back):
    return [(place[0], t) for t in rooms[place[0]].leads(link, place[1], back)]


def links_read(rooms, way):
    return [(link, back) for link in rooms[0].links for back in ((False, True) if way.endswith(".back") else (False,))]


def passes_zero(rooms, way, one, other):
    for word in rooms[0].words:
        mine, its = rooms[one[0]].holds(word, one[1]), rooms[other[0]].holds(word, other[1])
        if mine and not its or way.split(".")[0] in ("not", "full") and its and not mine:
            return False
    return True


def has_partners(xs, ys, pairs, all_of_them):
    if all_of_them and len(xs) != len(ys):
        return False
    return any(all((x, y) in pairs for x, y in zip(xs, chosen)) for chosen in itertools.permutations(ys, len(xs)))


def passes_step(rooms, way, one, other, pairs):
    base = way.split(".")[0]
    for link, back in links_read(rooms, way):
        xs, ys = heads_of(rooms, link, one, back), heads_of(rooms, link, other, back)
        if base in ("many", "full"):
            if not has_partners(xs, ys, pairs, base == "full"):
                return False
            continue
        if not all(any((x, y) in pairs for y in ys) for x in xs):
            return False
        if base in ("every", "not") and not all(any((x, y) in pairs for x in xs) for y in ys):
            return False
    return True


def all_pairs(rooms):
    return [(one, other) for one in places(rooms) for other in places(rooms)]


def like_for(rooms, way, rounds):
    """The pairs that are like for so many rounds, in order."""
    found = [pair for pair in all_pairs(rooms) if passes_zero(rooms, way, *pair)]
    zero = set(found)
    for _ in range(rounds):
        ahead = set(found)
        found = [pair for pair in all_pairs(rooms) if pair in zero and passes_step(rooms, way, *pair, ahead)]
    return found


def is_closed(rooms, way, pairs):
    return all(passes_zero(rooms, way, *pair) and passes_step(rooms, way, *pair, set(pairs)) for pair in pairs)


def likeness(rooms, way):
    """The greatest closed pairs, by deleting one pair after the other."""
    pairs = {pair for pair in all_pairs(rooms) if passes_zero(rooms, way, *pair)}
    while True:
        bad = next((pair for pair in sorted(pairs) if not passes_step(rooms, way, *pair, pairs)), None)
        if bad is None:
            return [pair for pair in all_pairs(rooms) if pair in pairs]
        pairs.remove(bad)


def in_order(rooms, some):
    order = places(rooms)
    return tuple(sorted(set(some), key=order.index))


def point_leads(rooms, point, link, back):
    order = places(rooms)
    made = {in_order(rooms, chosen) for chosen in itertools.product(*[heads_of(rooms, link, p, back) for p in point])}
    return sorted(made, key=lambda one: [order.index(p) for p in one])


def points_met(rooms, point, back):
    met = [tuple(tuple(p) for p in point)]
    for now in met:
        for link in rooms[0].links:
            for way in ((False, True) if back else (False,)):
                met.extend(one for one in point_leads(rooms, now, link, way) if one not in met)
    return met


def some_sayings(rng, room, way, many, drawn_saying):
    """Drawn sayings that a way lets, by the table of point 7."""
    found = []
    while len(found) < many:
        saying = drawn_saying(rng, room, 7, kinds_let(way))
        if not way.endswith(".back"):
            saying = Saying([tuple("on" if item == "back" else item for item in part) for part in saying.parts])
        found.append(saying)
    return found
