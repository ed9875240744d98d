"""Pairs of a point and a place in the plain ways: when they part, why, and to which pairs they lead.

A pair that parts at a round fails the step within the pairs that are like for one round
less: a link leads from the point to one like which, for so many rounds, is no place to
which it leads from the place.
"""

from sayable.alike import like_mask
from sayable.bits import bits_of
from sayable.pointwalk import point_table


class PointRounds:
    """The rounds at which the points that come about from one part from places.

    One is the number of a point, in the order in which they are met; other that of a place.
    """

    def __init__(self, field, web):
        self.field = field
        self.table = point_table(field, web)
        self._walk = web.walk
        self._met = web.met
        self._numbers = web.numbers

    def point_of(self, one):
        """The point with this number."""
        return self.field.places_in(self._met[one])

    def fault_of(self, one, other):
        """Why the pair parts: how, the word or the link that shows it, and a point and places that do."""
        least = self.table[one][other]
        if least == 0:
            return self._fault_at_first(self._met[one], other)
        for at, (link, back) in enumerate(self._walk.step.links_read):
            others = bits_of(self._walk.step.heads[at][other])
            for led in self._walk.least_led(at, self._met[one]):
                number = self._numbers[led]
                if self._are_parted(number, others, least):
                    return ("partner", (link, "back" if back else "on"), [number], others)
        return None

    def _fault_at_first(self, point, other):
        for word in self.field.words:
            mask = self.field.word_mask(word)
            if point & ~mask == 0 and not mask >> other & 1:
                return ("word", (word,), [], [])
        return None

    def _are_parted(self, number, others, least):
        """Whether the point with this number parts from all of the others ahead of this round."""
        row = self.table[number]
        for other in others:
            if row[other] is None or row[other] >= least:
                return False
        return True

    def pairs_below(self, rows, rounds, known):
        """Pairs that the step asks of the pairs of the rows, of those like for so many rounds: one for each turn.

        Rows are dicts from numbers to masks of places; pairs that are known are left out.
        """
        found = {}
        for one in rows:
            others = bits_of(rows[one])
            for at in self._walk.turns:
                heads = self._walk.step.heads[at]
                for led in self._walk.led(at, self._met[one]):
                    number = self._numbers[led]
                    for other in others:
                        held = found.get(number, 0) | known.get(number, 0)
                        if not heads[other] & held:
                            fitting = heads[other] & like_mask(self.table[number], rounds)
                            found[number] = found.get(number, 0) | fitting & -fitting
        return found
