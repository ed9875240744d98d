"""Couples of things, and partings of them: told ones, and those that are refined round by round.

A couple of things is kept as the numbers of two places of one room; a parting as colors, a
dict from couples to the numbers of their classes.
"""

from sayable.checks import is_list, is_within

MOST_COUPLES = 400


def are_few_couples(rooms):
    """Whether the rooms have no more couples than may be."""
    return sum([len(room) * len(room) for room in rooms]) <= MOST_COUPLES


def is_couple(rooms, value):
    """Whether any value is a couple of these rooms."""
    if not is_list(value) or len(value) != 3 or not is_within(value[0], 0, len(rooms) - 1):
        return False
    return value[1] in rooms[value[0]] and value[2] in rooms[value[0]]


class Couples:
    """All couples of the rooms of a field, in order."""

    def __init__(self, field):
        self.field = field
        self.all_couples = []
        self.near = []
        for index, room in enumerate(field.rooms):
            start = field.number_of_place((index, room.things[0]))
            numbers = list(range(start, start + len(room)))
            self.near.extend([numbers] * len(room))
            self.all_couples.extend([(one, other) for one in numbers for other in numbers])

    def number_pair(self, couple):
        """A couple, told with its things, as the numbers of its places."""
        index, one, other = couple
        return self.field.number_of_place((index, one)), self.field.number_of_place((index, other))

    def told_couple(self, pair):
        """The couple with these numbers of places, with its things."""
        index, one = self.field.all_places[pair[0]]
        return index, one, self.field.all_places[pair[1]][1]

    def facts_of(self, pair):
        """What is told of a couple itself: the parts that fit it, of those without parts ahead."""
        one, other = pair
        field = self.field
        facts = [("link", link) for link in field.links if field.link_rows(link, False)[one] >> other & 1]
        if one != other:
            return facts
        return [("same",), *facts, *[("of", word) for word in field.words if field.word_mask(word) >> one & 1]]

    def steps_of(self, pair, colors):
        """The classes by way of which a thing may be gone through: of one with it, of it with other."""
        one, other = pair
        return sorted({(colors[(one, between)], colors[(between, other)]) for between in self.near[one]})

    def first_colors(self):
        """The parting by what is told of the couples themselves."""
        return self._numbered({pair: tuple(self.facts_of(pair)) for pair in self.all_couples})

    def next_colors(self, colors):
        """The parting by a parting: by the classes of couples, of them turned, and of what they go through."""
        told = {}
        for pair in self.all_couples:
            turned = (pair[1], pair[0])
            told[pair] = (colors[pair], colors[turned], tuple(self.steps_of(pair, colors)))
        return self._numbered(told)

    def _numbered(self, told):
        """Colors by what is told of each couple, numbered in the order of the first ones."""
        numbers = {}
        colors = {}
        for pair in self.all_couples:
            if told[pair] not in numbers:
                numbers[told[pair]] = len(numbers)
            colors[pair] = numbers[told[pair]]
        return colors

    def refined(self):
        """The partings, each refined by the one ahead of it; the last one is stable, and the coarsest one."""
        found = [self.first_colors()]
        while True:
            colors = self.next_colors(found[-1])
            if max(list(colors.values())) == max(list(found[-1].values())):
                return found
            found.append(colors)

    def is_stable(self, colors):
        """Whether a parting is stable."""
        first, after = self.first_colors(), self.next_colors(colors)
        known = {}
        for pair in self.all_couples:
            told = (first[pair], after[pair])
            if known.setdefault(colors[pair], told) != told:
                return False
        return True

    def classes_of(self, colors):
        """The classes of a parting, by their numbers, as lists of couples in order."""
        classes = [[] for _ in range(max(list(colors.values())) + 1)]
        for pair in self.all_couples:
            classes[colors[pair]].append(pair)
        return classes
