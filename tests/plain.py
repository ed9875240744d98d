"""The document's own words, read step by step, without any haste: what the package is compared with."""

import itertools

from sayable.sayings import Saying

LET = {"plain": (), "either": ("either",), "every": ("either", "every"), "many": ("either", "least"),
       "not": ("either", "every", "not"), "full": ("either", "every", "least", "not")}
ALL_KINDS = ["thing", "nothing", "word", "both", "either", "not", "some", "every", "least", "top", "above"]
TEN = [base + back for back in ("", ".back") for base in ("either", "every", "many", "not", "full")]
TWELVE = [base + back for back in ("", ".back") for base in LET]


def kinds_let(way):
    return ["thing", "nothing", "word", "both", "some", *LET[way.removesuffix(".back")]]


def led(room, link, thing, direction):
    return room.leads(link, thing, direction == "back")


def fits(room, parts, at, thing, more):
    """Whether a part fits a thing, by the table of point 6."""
    part = parts[at]
    kind = part[0]

    def holds(word):
        return thing in more[word] if word in more else room.holds(word, thing)

    if kind in ("thing", "nothing"):
        return kind == "thing"
    if kind == "word":
        return holds(part[1])
    if kind == "both":
        return fits(room, parts, part[1], thing, more) and fits(room, parts, part[2], thing, more)
    if kind == "either":
        return fits(room, parts, part[1], thing, more) or fits(room, parts, part[2], thing, more)
    if kind == "not":
        return not fits(room, parts, part[1], thing, more)
    if kind in ("some", "every", "least"):
        heads = [fits(room, parts, part[-1], head, more) for head in led(room, part[-3], thing, part[-2])]
        return any(heads) if kind == "some" else all(heads) if kind == "every" else sum(heads) >= part[1]
    scale = part[1]
    number = room.number_of(scale, thing)
    if number is None:
        return False
    if kind == "top":
        others = [room.number_of(scale, t) for t in room if fits(room, parts, part[2], t, more)]
        return fits(room, parts, part[2], thing, more) and not any(n is not None and n > number for n in others)
    word = part[2]
    having = [t for t in room if (t in more[word] if word in more else room.holds(word, t))]
    others = [room.number_of(scale, t) for t in having if t != thing and room.number_of(scale, t) is not None]
    return thing in having and sum(n < number for n in others) > len(others) / 2


def reading(room, saying, more=None):
    return tuple(t for t in room if fits(room, saying.parts, len(saying.parts) - 1, t, more or {}))


def places(rooms):
    return [(k, t) for k, room in enumerate(rooms) for t in room]


def heads_of(rooms, link, place, back):
    return [(place[0], t) for t in rooms[place[0]].leads(link, place[1], back)]


def links_read(rooms, way):
    return [(link, back) for link in rooms[0].links for back in ((False, True) if way.endswith(".back") else (False,))]


def passes_zero(rooms, way, one, other):
    for word in rooms[0].words:
        mine, its = rooms[one[0]].holds(word, one[1]), rooms[other[0]].holds(word, other[1])
        if mine and not its or way.split(".")[0] in ("not", "full") and its and not mine:
            return False
    return True


def has_partners(xs, ys, pairs, all_of_them):
    if all_of_them and len(xs) != len(ys):
        return False
    return any(all((x, y) in pairs for x, y in zip(xs, chosen)) for chosen in itertools.permutations(ys, len(xs)))


def passes_step(rooms, way, one, other, pairs):
    base = way.split(".")[0]
    for link, back in links_read(rooms, way):
        xs, ys = heads_of(rooms, link, one, back), heads_of(rooms, link, other, back)
        if base in ("many", "full"):
            if not has_partners(xs, ys, pairs, base == "full"):
                return False
            continue
        if not all(any((x, y) in pairs for y in ys) for x in xs):
            return False
        if base in ("every", "not") and not all(any((x, y) in pairs for x in xs) for y in ys):
            return False
    return True


def all_pairs(rooms):
    return [(one, other) for one in places(rooms) for other in places(rooms)]


def like_for(rooms, way, rounds):
    """The pairs that are like for so many rounds, in order."""
    found = [pair for pair in all_pairs(rooms) if passes_zero(rooms, way, *pair)]
    zero = set(found)
    for _ in range(rounds):
        ahead = set(found)
        found = [pair for pair in all_pairs(rooms) if pair in zero and passes_step(rooms, way, *pair, ahead)]
    return found


def is_closed(rooms, way, pairs):
    return all(passes_zero(rooms, way, *pair) and passes_step(rooms, way, *pair, set(pairs)) for pair in pairs)


def likeness(rooms, way):
    """The greatest closed pairs, by deleting one pair after the other."""
    pairs = {pair for pair in all_pairs(rooms) if passes_zero(rooms, way, *pair)}
    while True:
        bad = next((pair for pair in sorted(pairs) if not passes_step(rooms, way, *pair, pairs)), None)
        if bad is None:
            return [pair for pair in all_pairs(rooms) if pair in pairs]
        pairs.remove(bad)


def in_order(rooms, some):
    order = places(rooms)
    return tuple(sorted(set(some), key=order.index))


def point_leads(rooms, point, link, back):
    order = places(rooms)
    made = {in_order(rooms, chosen) for chosen in itertools.product(*[heads_of(rooms, link, p, back) for p in point])}
    return sorted(made, key=lambda one: [order.index(p) for p in one])


def points_met(rooms, point, back):
    met = [tuple(tuple(p) for p in point)]
    for now in met:
        for link in rooms[0].links:
            for way in ((False, True) if back else (False,)):
                met.extend(one for one in point_leads(rooms, now, link, way) if one not in met)
    return met


def some_sayings(rng, room, way, many, drawn_saying):
    """Drawn sayings that a way lets, by the table of point 7."""
    found = []
    while len(found) < many:
        saying = drawn_saying(rng, room, 7, kinds_let(way))
        if not way.endswith(".back"):
            saying = Saying([tuple("on" if item == "back" else item for item in part) for part in saying.parts])
        found.append(saying)
    return found


def word_holds(rooms, word, point):
    return all(rooms[index].holds(word, thing) for index, thing in point)


def point_first(rooms, point, place):
    """Whether a pair of a point and a place passes round 0, by point 10."""
    return all(rooms[place[0]].holds(word, place[1]) for word in rooms[0].words if word_holds(rooms, word, point))


def point_step(rooms, way, point, place, pairs):
    for link, back in links_read(rooms, way):
        for led_to in point_leads(rooms, point, link, back):
            if not any((led_to, head) in pairs for head in heads_of(rooms, link, place, back)):
                return False
    return True


def point_likes(rooms, way, point):
    """For 0, 1, 2 .. rounds, as long as they differ, the pairs of the points that come about that are like for them."""
    points = points_met(rooms, point, way.endswith(".back"))
    leads = {(one, link, back): point_leads(rooms, one, link, back) for one in points for link, back in links_read(rooms, way)}
    first = {(one, place) for one in points for place in places(rooms) if point_first(rooms, one, place)}
    found = [first]
    while True:
        ahead = found[-1]
        passed = {(one, place) for one, place in first if all(
            any((led_to, head) in ahead for head in heads_of(rooms, link, place, back))
            for link, back in links_read(rooms, way) for led_to in leads[(one, link, back)])}
        if passed == ahead:
            return found
        found.append(passed)


def pair_first(rooms, way, point, place):
    """Round 0 of a pair of a point of a book and a place, by point 11."""
    if way.startswith("plain"):
        return point_first(rooms, point, place)
    return passes_zero(rooms, way, point[0], place)


def pair_step(rooms, way, point, place, pairs):
    if way.startswith("plain"):
        return point_step(rooms, way, point, place, pairs)
    return passes_step(rooms, way, point[0], place, {(one[0], other) for one, other in pairs})


def closed_under(way, crowds, whole):
    """All crowds that come of these by the parts that a way lets, but for those that bear a link."""
    kinds = kinds_let(way)
    made = set(crowds)
    while True:
        more = {one & other for one in made for other in made}
        if "either" in kinds:
            more |= {one | other for one in made for other in made}
        if "not" in kinds:
            more |= {whole - one for one in made}
        if more <= made:
            return made
        made |= more


def crowd_levels(rooms, way):
    """For each depth the crowds, of places, to which the sayings of at most this depth read; further depths add none."""
    whole = frozenset(places(rooms))
    words = [frozenset(place for place in whole if word_holds(rooms, word, [place])) for word in rooms[0].words]
    levels = [closed_under(way, [whole, frozenset(), *words], whole)]
    kinds = kinds_let(way)
    heads = [{place: heads_of(rooms, link, place, back) for place in whole} for link, back in links_read(rooms, way)]
    while True:
        more = set(levels[-1])
        for led_to in heads:
            for crowd in levels[-1]:
                more.add(frozenset(p for p in whole if any(head in crowd for head in led_to[p])))
                if "every" in kinds:
                    more.add(frozenset(p for p in whole if all(head in crowd for head in led_to[p])))
                if "least" in kinds:
                    more |= {frozenset(p for p in whole if sum(head in crowd for head in led_to[p]) >= n) for n in range(2, 7)}
        more = closed_under(way, more, whole)
        if more == levels[-1]:
            return levels
        levels.append(more)


def depth_said(levels, meant):
    """The least depth at which a crowd is among the levels, or None."""
    return next((depth for depth, level in enumerate(levels) if frozenset(meant) in level), None)


def book_points(book, way):
    meant = book.meant_places()
    if way.startswith("plain"):
        return [meant] if meant else []
    return [(place,) for place in meant]


def is_good_pair(book, way, pair):
    """Whether this is a pair of a point and a place of the book's rooms, told with tuples and integers."""
    order = places(book.rooms)

    def is_good_place(place):
        return isinstance(place, tuple) and len(place) == 2 and type(place[0]) is int and place in order

    if not isinstance(pair, tuple) or len(pair) != 2 or not isinstance(pair[0], tuple) or not pair[0]:
        return False
    if not is_good_place(pair[1]) or not all(is_good_place(place) for place in pair[0]):
        return False
    at = [order.index(place) for place in pair[0]]
    return at == sorted(set(at)) and (way.startswith("plain") or len(at) == 1)


def is_stage(rooms, way, pairs, ahead):
    return all(pair_first(rooms, way, *pair) and (ahead is None or pair_step(rooms, way, *pair, ahead)) for pair in pairs)


def shows_pair(book, way, value, pairs):
    return ((value.point, value.place) in pairs and value.point in book_points(book, way)
            and value.place in book.other_places())


def shows_said(book, way, value):
    """Reads a Said or an Unsaid, of small rooms, by the words of the document."""
    if type(value).__name__ == "Unsaid":
        good = isinstance(value.pairs, tuple) and all(is_good_pair(book, way, pair) for pair in value.pairs)
        return good and shows_pair(book, way, value, value.pairs) and is_stage(book.rooms, way, value.pairs, value.pairs)
    saying, stages = value.saying, value.stages
    if not isinstance(saying, Saying) or any(kind not in kinds_let(way) for kind in saying.kinds):
        return False
    if saying.is_back and not way.endswith(".back") or set(saying.links) - set(book.rooms[0].links):
        return False
    if set(saying.words) - set(book.rooms[0].words) or tuple(reading(room, saying) for room in book.rooms) != book.meant:
        return False
    if not isinstance(stages, tuple) or len(stages) != saying.depth:
        return False
    if not stages:
        return value.point is None and value.place is None
    for at, stage in enumerate(stages):
        if not isinstance(stage, tuple) or not all(is_good_pair(book, way, pair) for pair in stage):
            return False
        if not is_stage(book.rooms, way, stage, stages[at - 1] if at else None):
            return False
    return shows_pair(book, way, value, stages[-1])


def tie_fits(room, parts, at, one, other):
    """Whether a part of a tie fits a couple, by the table of point 15."""
    part = parts[at]
    kind = part[0]
    if kind in ("any", "none"):
        return kind == "any"
    if kind == "same":
        return one == other
    if kind == "link":
        return other in room.leads(part[1], one)
    if kind == "of":
        return one == other and room.holds(part[1], one)
    if kind == "both":
        return tie_fits(room, parts, part[1], one, other) and tie_fits(room, parts, part[2], one, other)
    if kind == "either":
        return tie_fits(room, parts, part[1], one, other) or tie_fits(room, parts, part[2], one, other)
    if kind == "not":
        return not tie_fits(room, parts, part[1], one, other)
    if kind == "turned":
        return tie_fits(room, parts, part[1], other, one)
    return any(tie_fits(room, parts, part[1], one, z) and tie_fits(room, parts, part[2], z, other) for z in room)


def tie_pairs(room, tie):
    return tuple((x, y) for x in room for y in room if tie_fits(room, tie.parts, len(tie.parts) - 1, x, y))


def couples(rooms):
    return [(k, x, y) for k, room in enumerate(rooms) for x in room for y in room]


def are_akin(rooms, number, one, other):
    """Whether two couples of one class agree, by what point 15 asks of a stable parting."""
    (i, x, y), (k, u, v) = one, other
    here, there = rooms[i], rooms[k]
    if (x == y) != (u == v) or number[(i, y, x)] != number[(k, v, u)]:
        return False
    if any((y in here.leads(link, x)) != (v in there.leads(link, u)) for link in here.links):
        return False
    if x == y and any(here.holds(word, x) != there.holds(word, u) for word in here.words):
        return False
    return all(any(number[(i, x, z)] == number[(k, u, w)] and number[(i, z, y)] == number[(k, w, v)] for w in there) for z in here)


def is_stable(rooms, classes):
    number = {couple: at for at, group in enumerate(classes) for couple in group}
    return all(are_akin(rooms, number, one, other) for group in classes for one in group for other in group)


def coarsest(rooms):
    """The coarsest stable parting: classes are parted as long as two of their couples do not agree."""
    classes = [couples(rooms)]
    while True:
        number = {couple: at for at, group in enumerate(classes) for couple in group}
        made = []
        for group in classes:
            rows = []
            for couple in group:
                home = next((row for row in rows if are_akin(rooms, number, row[0], couple) and are_akin(rooms, number, couple, row[0])), None)
                if home is None:
                    rows.append([couple])
                else:
                    home.append(couple)
            made.extend(rows)
        if len(made) == len(classes):
            order = couples(rooms)
            return tuple(tuple(row) for row in sorted(made, key=lambda row: order.index(row[0])))
        classes = made
