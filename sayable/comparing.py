"""Partings of places by what can be said and compared of them, and parts that fit their classes.

A parting is kept as colors: for each place the number of its class. Facts tell places apart:
by themselves, or as soon as each class of a parting can be said. Of the greatest ones of a
class, put together with another one, none is less than one of its own class; so "under"
another class is told only of those that are the greatest of their own one.
"""

from sayable.bits import bits_of
from sayable.partmaker import PartMaker
from sayable.ways import base_of, reads_back

COMPARING_WAYS = ("not", "full", "not.back", "full.back")
COMPARING_KINDS = ("top", "above")


class PlaceFacts:
    """What tells the places of a field apart in a way: tuples of facts, in one order, for each place."""

    def __init__(self, field, way):
        self.field = field
        self._asks_counts = base_of(way) == "full"
        self._heads = [(link, "back" if back else "on", [bits_of(row) for row in field.link_rows(link, back)])
                       for link, back in field.ways_to_read(reads_back(way))]
        self._greater = [(scale, greater_places(field, scale)) for scale in field.scales]

    def first_facts(self):
        """The words that hold of each place, and those in which it is above."""
        field = self.field
        masks = {("word", word): field.word_mask(word) for word in field.words}
        for scale in field.scales:
            for word in field.words:
                masks[("above", scale, word)] = field.scaled_places("above", scale, field.word_mask(word))
        return [tuple([fact for fact in masks if masks[fact] >> place & 1]) for place in range(field.many)]

    def next_facts(self, colors):
        """To which classes links lead from each place, and under which ones it is."""
        return [tuple(self._led_facts(place, colors) + self._scale_facts(place, colors))
                for place in range(self.field.many)]

    def _led_facts(self, place, colors):
        facts = []
        for link, direction, heads in self._heads:
            counts = {}
            for head in heads[place]:
                counts[colors[head]] = counts.get(colors[head], 0) + 1
            for color in sorted(counts):
                facts.append(("some", link, direction, color))
                if self._asks_counts:
                    facts.extend([("least", many, link, direction, color) for many in range(2, counts[color] + 1)])
        return facts

    def _scale_facts(self, place, colors):
        facts = []
        for scale, greater in self._greater:
            if greater[place] is not None:
                above = sorted({colors[other] for other in greater[place]})
                if colors[place] not in above:
                    facts.append(("top", scale))
                    facts.extend([("under", scale, color) for color in above])
        return facts

    def is_stable(self, colors):
        """Whether the places of each class have the same facts."""
        first, after = self.first_facts(), self.next_facts(colors)
        known = {}
        for place, color in enumerate(colors):
            told = (first[place], after[place])
            if known.setdefault(color, told) != told:
                return False
        return True


def greater_places(field, scale):
    """For each place the places of its room with greater numbers; None if it has no number."""
    found = []
    for start, room in zip(field.starts, field.rooms):
        row = room.scale_row(scale)
        told = [(start + at, number) for at, number in enumerate(row) if number is not None]
        for own in row:
            found.append(None if own is None else [place for place, number in told if number > own])
    return found


class ClassMaker:
    """The classes of the coarsest stable parting, each as its mask and the number of a part that fits just it."""

    def __init__(self, field, way):
        self.field = field
        self.maker = PartMaker(field)
        facts = PlaceFacts(field, way)
        self.classes = self._parted([(field.whole, self.maker.put(("thing",)))], facts.first_facts())
        while True:
            finer = self._parted(self.classes, facts.next_facts(self.class_colors()))
            if len(finer) == len(self.classes):
                break
            self.classes = finer

    def class_colors(self):
        """For each place the number of its class."""
        found = {}
        for color, (mask, _) in enumerate(self.classes):
            for place in bits_of(mask):
                found[place] = color
        return [found[place] for place in range(self.field.many)]

    def _parted(self, classes, facts):
        """The classes, each parted by the facts of its places, in the order of their first places."""
        numbers = [number for _, number in classes]
        found = []
        for mask, number in classes:
            found.extend(self._leaves(mask, number, facts, numbers))
        return sorted(found, key=lambda row: bits_of(row[0]))

    def _leaves(self, mask, number, facts, numbers):
        """What a class is parted into, as long as two places of it have unlike facts."""
        found = []
        waiting = [(mask, number)]
        while waiting:
            now, at = waiting.pop()
            fact = _first_between(facts, bits_of(now))
            if fact is None:
                found.append((now, at))
            else:
                part = self._put_fact(fact, number, numbers)
                fitted = self.maker.masks[part]
                waiting.append((now & fitted, self._put_both(at, part)))
                waiting.append((now & ~fitted, self._put_both(at, self.maker.put(("not", part)))))
        return found

    def _put_both(self, one, other):
        if self.maker.parts[one] == ("thing",):
            return other
        return self.maker.put(("both", one, other))

    def _put_fact(self, fact, own, numbers):
        """The number of a part that fits the places of a class, whose own part this is, by a fact."""
        kind = fact[0]
        if kind in ("word", "above"):
            return self.maker.put(fact)
        if kind == "top":
            return self.maker.put(("top", fact[1], own))
        number = numbers[fact[-1]]
        if kind == "under":
            return self.maker.put(("top", fact[1], self.maker.put(("either", own, number))))
        return self.maker.put((*fact[:-1], number))

    def saying_for(self, meant):
        """A saying that fits just the classes that have one of the meant places."""
        found = None
        for mask, number in list(self.classes):
            if mask & meant:
                found = number if found is None else self.maker.put(("either", found, number))
        return self.maker.saying_of(self.maker.put(("nothing",)) if found is None else found)

    def first_mixed(self, meant):
        """Of the first class with meant places and others the first meant one, and the first other one."""
        for mask, _ in self.classes:
            held, left = bits_of(mask & meant), bits_of(mask & ~meant)
            if held and left:
                return held[0], left[0]
        return None

    def told_classes(self):
        """The classes as tuples of places."""
        return tuple([self.field.places_in(mask) for mask, _ in self.classes])


def _first_between(facts, places):
    """The first fact, in order, that one of the places has and the first one of them not, or the other way about."""
    first = facts[places[0]]
    for place in places[1:]:
        if facts[place] != first:
            return sorted(set(first) ^ set(facts[place]))[0]
    return None
