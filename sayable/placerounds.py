"""Pairs of places in the ten ways that have "or": when they part, why, and to which pairs they lead.

A pair that parts at a round fails the step within the pairs that are like for one round
less: some place to which a link leads from one has no partner, some places have too few, or
some place to which it leads from other is none.
"""

from sayable.alike import like_mask, parting_table
from sayable.bits import bits_of, joined_masks, mask_of
from sayable.partners import lacking_partners
from sayable.ways import base_of, reads_back


class PlaceRounds:
    """The rounds at which the pairs of places of a field part; one and other are numbers of places."""

    def __init__(self, field, way):
        self.field = field
        self.base = base_of(way)
        self.table = parting_table(field, way)
        self._links = [(link, "back" if back else "on", field.link_rows(link, back))
                       for link, back in field.ways_to_read(reads_back(way))]

    def point_of(self, one):
        """The point of this one place."""
        return (self.field.all_places[one],)

    def fault_of(self, one, other):
        """Why the pair parts: how, the words and the link that show it, and places that do."""
        least = self.table[one][other]
        if least == 0:
            return self._fault_at_first(one, other)
        for link, direction, heads in self._links:
            ones, others = bits_of(heads[one]), bits_of(heads[other])
            rows = {head: like_mask(self.table[head], least - 1) for head in ones}
            fault = self._fault_by(ones, others, rows)
            if fault is not None:
                how, some, rest = fault
                return (how, (link, direction), some, rest)
        return None

    def _fault_at_first(self, one, other):
        fault = None
        for word in self.field.words:
            mask = self.field.word_mask(word)
            if mask >> one & 1 and not mask >> other & 1:
                return ("word", (word,), [], [])
            if mask >> other & 1 and not mask >> one & 1 and fault is None:
                fault = ("no word", (word,), [], [])
        return fault

    def _fault_by(self, ones, others, rows):
        """How one link, so read, shows that a pair parts; None if it does not."""
        mask = mask_of(others)
        if self.base in ("many", "full"):
            few = lacking_partners(ones, [rows[head] & mask for head in ones])
        else:
            few = [head for head in ones if not rows[head] & mask][:1]
        if few:
            allowed = mask_of([other for other in others if any([rows[head] >> other & 1 for head in few])])
            return ("partner", few, bits_of(mask & ~allowed))
        if self.base in ("every", "not"):
            alone = [other for other in others if not any([rows[head] >> other & 1 for head in ones])]
            if alone:
                return ("every", ones, alone[:1])
        if self.base == "full" and len(ones) < len(others):
            return ("count", ones, others)
        return None

    def pairs_below(self, rows, rounds, known):
        """All pairs that the step asks of the pairs of the rows, of those like for so many rounds.

        Rows are dicts from numbers to masks of places; pairs that are known are left out.
        """
        found = {}
        for one in rows:
            for _, _, heads in self._links:
                reached = joined_masks(heads, rows[one])
                for head in bits_of(heads[one]):
                    mask = reached & like_mask(self.table[head], rounds) & ~known.get(head, 0)
                    if mask:
                        found[head] = found.get(head, 0) | mask
        return found
