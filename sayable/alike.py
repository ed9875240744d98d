"""Likeness of places as masks: round 0, the step, and the rounds at which pairs part.

Pairs (one, other) are kept as rows: row number one is the mask of the others.
"""

from sayable.bits import bits_of, count_of, joined_masks, mask_of
from sayable.partners import lacking_partners
from sayable.ways import base_of, reads_back

LIKE_WAYS = ("either", "every", "many", "not", "full",
             "either.back", "every.back", "many.back", "not.back", "full.back")


def first_rows(field, way):
    """The rows of the pairs that pass round 0."""
    rows = [field.whole] * field.many
    for word in field.words:
        mask = field.word_mask(word)
        for one in range(field.many):
            if mask >> one & 1:
                rows[one] = rows[one] & mask
            elif base_of(way) in ("not", "full"):
                rows[one] = rows[one] & ~mask
    return rows


class Step:
    """The step of a way over the places of a field: which pairs pass it within which."""

    def __init__(self, field, way):
        base = base_of(way)
        self.asks_each = base in ("every", "not")
        self.asks_partners = base in ("many", "full")
        self.asks_all_partners = base == "full"
        self.whole = field.whole
        self.links_read = field.ways_to_read(reads_back(way))
        self.heads = [field.link_rows(link, back) for link, back in self.links_read]
        self.tails = [field.link_rows(link, not back) for link, back in self.links_read]
        # What leads to the places of a mask, for each link: the same masks come again and again.
        self._known = [{} for _ in self.links_read]

    def leading_to(self, at, mask):
        """The places from which a link, so read, leads to one of the mask."""
        known = self._known[at]
        if mask not in known:
            known[mask] = joined_masks(self.tails[at], mask)
        return known[mask]

    def passing(self, rows, one, others):
        """Those of the others for which the pair of one and them passes the step within the rows."""
        for at in range(len(self.links_read)):
            if others:
                others = self._passing_by(at, rows, one, others)
        return others

    def _passing_by(self, at, rows, one, others):
        heads = self.heads[at]
        ones = bits_of(heads[one])
        for head in ones:
            others = others & self.leading_to(at, rows[head])
        if self.asks_each:
            reach = joined_masks(rows, heads[one])
            others = others & ~self.leading_to(at, self.whole & ~reach)
        if self.asks_all_partners and not ones:
            return others & ~self.leading_to(at, self.whole)
        if self.asks_partners and ones:
            # Places that lead to the same ones have partners alike.
            known = {}
            for other in bits_of(others):
                mask = heads[other]
                if mask not in known:
                    known[mask] = self._has_partners(ones, rows, mask)
                if not known[mask]:
                    others = others ^ 1 << other
        return others

    def _has_partners(self, ones, rows, mask):
        many = count_of(mask)
        if len(ones) > many or (self.asks_all_partners and len(ones) < many):
            return False
        return not lacking_partners(ones, [rows[head] & mask for head in ones])

    def stepping_to(self, mask):
        """The places from which a link, as the way reads it, leads to one of the mask."""
        places = 0
        for at in range(len(self.links_read)):
            places = places | self.leading_to(at, mask)
        return places


def like_mask(row, rounds):
    """The places that are like one for so many rounds, None: for all; row tells when each one parts."""
    if rounds is None:
        return mask_of([other for other, parted in enumerate(row) if parted is None])
    return mask_of([other for other, parted in enumerate(row) if parted is None or parted > rounds])


def parting_table(field, way):
    """For each one and each other the round at which the pair parts; None if it never does."""
    step = Step(field, way)
    rows = first_rows(field, way)
    table = [[None if row >> other & 1 else 0 for other in range(field.many)] for row in rows]
    turn = 0
    waiting = field.whole
    while waiting:
        turn += 1
        # A pair can part only now if what it leads to parted in the round before.
        passed = {one: step.passing(rows, one, rows[one]) for one in bits_of(waiting)}
        turned = 0
        for one in passed:
            for other in bits_of(rows[one] & ~passed[one]):
                table[one][other] = turn
                turned = turned | 1 << one
        for one in passed:
            rows[one] = passed[one]
        waiting = step.stepping_to(turned)
    return table


def are_closed(field, way, rows):
    """Whether the pairs of the rows pass round 0, and the step within them all."""
    step = Step(field, way)
    for one, row in enumerate(first_rows(field, way)):
        if rows[one] & ~row:
            return False
    for one in range(field.many):
        if step.passing(rows, one, rows[one]) != rows[one]:
            return False
    return True
