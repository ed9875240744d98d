"""Sayings that part pairs of places, in the ten ways that have "or".

A pair that parts at a round fails the step within the pairs that are like for one round
less: some place to which a link leads from one has no partner, some places have too few, or
some place to which it leads from other is none. The sayings that part these pairs, all of
less depth, are put together to one that parts the pair.
"""

from sayable.alike import parting_table
from sayable.bits import bits_of, mask_of
from sayable.partmaker import PartMaker
from sayable.partners import lacking_partners
from sayable.ways import base_of, reads_back


class Partings:
    """For each pair of numbers of places that parts, a part that fits one and not other."""

    def __init__(self, field, way):
        self.field = field
        self.base = base_of(way)
        self.table = parting_table(field, way)
        self.maker = PartMaker(field)
        self._links = [(link, back, field.link_rows(link, back)) for link, back in field.ways_to_read(reads_back(way))]
        self._told = {}
        self._faults = {}
        self._wanted = None

    def part_for(self, one, other):
        """The number of a part that fits one and not other, as deep as the round at which they part."""
        waiting = [(one, other)]
        while waiting:
            pair = waiting[-1]
            number = self._try(pair)
            if number is None:
                # Another pair must be parted first; behind it this one is tried again.
                waiting.append(self._wanted)
            else:
                self._told[pair] = number
                waiting.pop()
        return self._told[(one, other)]

    def _try(self, pair):
        """The number of a part for the pair; None if one for the wanted pair must be made first."""
        if pair in self._told:
            return self._told[pair]
        one, other = pair
        if self.table[one][other] == 0:
            return self._part_by_word(one, other)
        if pair not in self._faults:
            self._faults[pair] = self._fault_of(one, other)
        link, back, lacking, from_one, from_other = self._faults[pair]
        items = (link, "back" if back else "on")
        if lacking == "every":
            number = self._widened(from_one, from_other[0])
            return None if number is None else self.maker.put(("every", *items, number))
        if lacking == "count":
            return self._part_by_count(items, len(from_one))
        number = self._narrowed(from_one, from_other)
        if number is None:
            return None
        if len(from_one) == 1:
            return self.maker.put(("some", *items, number))
        return self.maker.put(("least", len(from_one), *items, number))

    def _part_by_word(self, one, other):
        for word in self.field.words:
            mask = self.field.word_mask(word)
            if mask >> one & 1 and not mask >> other & 1:
                return self.maker.put(("word", word))
        for word in self.field.words:
            mask = self.field.word_mask(word)
            if mask >> other & 1 and not mask >> one & 1:
                return self.maker.put(("not", self.maker.put(("word", word))))
        return None

    def _part_by_count(self, items, many):
        """A part for what leads to just so many, where the other place leads to more."""
        if many == 0:
            return self.maker.put(("every", *items, self.maker.put(("nothing",))))
        return self.maker.put(("not", self.maker.put(("least", many + 1, *items, self.maker.put(("thing",))))))

    def _fault_of(self, one, other):
        """Why the pair parts: a link, how it is read, what is lacking, and places that show it."""
        least = self.table[one][other]
        for link, back, heads in self._links:
            ones, others = bits_of(heads[one]), bits_of(heads[other])
            rows = {head: self._row_at(head, least) for head in ones}
            fault = self._fault_by(ones, others, rows)
            if fault is not None:
                return (link, back, *fault)
        return None

    def _row_at(self, head, least):
        """The places that are like one for so many rounds less one, as a mask."""
        return mask_of([other for other, parted in enumerate(self.table[head]) if parted is None or parted >= least])

    def _fault_by(self, ones, others, rows):
        mask = mask_of(others)
        if self.base in ("many", "full"):
            few = lacking_partners(ones, [rows[head] & mask for head in ones])
        else:
            few = [head for head in ones if not rows[head] & mask][:1]
        if few:
            allowed = mask_of([other for other in others if any([rows[head] >> other & 1 for head in few])])
            return ("partner", few, bits_of(mask & ~allowed))
        if self.base in ("every", "not"):
            alone = [other for other in others if not any([rows[head] >> other & 1 for head in ones])]
            if alone:
                return ("every", ones, alone)
        if self.base == "full" and len(ones) < len(others):
            return ("count", ones, others)
        return None

    def _narrowed(self, ones, others):
        """A part that fits all of the ones and none of the others."""
        found = None
        for other in others:
            if found is not None and not self.maker.does_fit(found, other):
                continue
            number = self._widened(ones, other)
            if number is None:
                return None
            found = number if found is None else self.maker.put(("both", found, number))
        return self.maker.put(("thing",)) if found is None else found

    def _widened(self, ones, other):
        """A part that fits all of the ones, and not other."""
        found = None
        for one in ones:
            if found is not None and self.maker.does_fit(found, one):
                continue
            if (one, other) not in self._told:
                self._wanted = (one, other)
                return None
            number = self._told[(one, other)]
            found = number if found is None else self.maker.put(("either", found, number))
        return self.maker.put(("nothing",)) if found is None else found
