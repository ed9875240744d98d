"""Sayings that part pairs, put together from those that part other pairs, of less depth.

Pairs are told by numbers (one, other), of a place or a point and of a place, as PlaceRounds
and PointRounds tell them, together with why they part.
"""

from sayable.partmaker import PartMaker


class Partings:
    """For each pair that parts, a part that fits one and not other."""

    def __init__(self, rounds):
        self.rounds = rounds
        self.maker = PartMaker(rounds.field)
        self._told = {}
        self._faults = {}
        self._wanted = None

    def part_for(self, one, other):
        """The number of a part that fits one and not other, as deep as the round at which they part."""
        waiting = [(one, other)]
        while waiting:
            pair = waiting[-1]
            number = self._try(pair)
            if number is None:
                # Another pair must be parted first; behind it this one is tried again.
                waiting.append(self._wanted)
            else:
                self._told[pair] = number
                waiting.pop()
        return self._told[(one, other)]

    def part_between(self, ones, others):
        """The number of a part that fits all of the ones and none of the others, by the parts of their pairs."""
        found = None
        for other in others:
            if found is not None and not self.maker.does_fit(found, other):
                continue
            number = self._widened(ones, other)
            while number is None:
                self.part_for(*self._wanted)
                number = self._widened(ones, other)
            found = number if found is None else self.maker.put(("both", found, number))
        return self.maker.put(("thing",)) if found is None else found

    def _try(self, pair):
        """The number of a part for the pair; None if one for the wanted pair must be made first."""
        if pair in self._told:
            return self._told[pair]
        if pair not in self._faults:
            self._faults[pair] = self.rounds.fault_of(pair[0], pair[1])
        how, items, ones, others = self._faults[pair]
        if how == "word":
            return self.maker.put(("word", *items))
        if how == "no word":
            return self.maker.put(("not", self.maker.put(("word", *items))))
        if how == "count":
            return self._part_by_count(items, len(ones))
        if how == "every":
            number = self._widened(ones, others[0])
            return None if number is None else self.maker.put(("every", *items, number))
        number = self._narrowed(ones, others)
        if number is None:
            return None
        if len(ones) == 1:
            return self.maker.put(("some", *items, number))
        return self.maker.put(("least", len(ones), *items, number))

    def _part_by_count(self, items, many):
        """A part for what leads to just so many, where the other place leads to more."""
        if many == 0:
            return self.maker.put(("every", *items, self.maker.put(("nothing",))))
        return self.maker.put(("not", self.maker.put(("least", many + 1, *items, self.maker.put(("thing",))))))

    def _narrowed(self, ones, others):
        """A part that fits all of the ones and none of the others."""
        found = None
        for other in others:
            if found is not None and not self.maker.does_fit(found, other):
                continue
            number = self._widened(ones, other)
            if number is None:
                return None
            found = number if found is None else self.maker.put(("both", found, number))
        return self.maker.put(("thing",)) if found is None else found

    def _widened(self, ones, other):
        """A part that fits all of the ones, and not other; None if a pair must be parted first."""
        found = None
        for one in ones:
            # A point stands here alone: so what is asked whether it is fitted is a place.
            if found is not None and self.maker.does_fit(found, one):
                continue
            if (one, other) not in self._told:
                self._wanted = (one, other)
                return None
            number = self._told[(one, other)]
            found = number if found is None else self.maker.put(("either", found, number))
        return self.maker.put(("nothing",)) if found is None else found
