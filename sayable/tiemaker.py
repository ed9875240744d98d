"""Ties for the classes of the partings of couples, put together round by round.

A class of a round is what the class of the round ahead has, but for couples that are parted
now: from each of these it is parted by a fact, or by ties of the classes of the round ahead.
"""

from sayable.bits import bits_of
from sayable.parts import TIE_KINDS, one_form
from sayable.tierows import part_rows
from sayable.ties import Tie


class TieMaker:
    """Parts of ties, each different one once, and for each class of a parting the number of its part."""

    def __init__(self, couples):
        self.couples = couples
        self.parts = []
        self._rows = []
        self._numbers = {}

    def put(self, part):
        """The number of a part; a new one is put behind the others."""
        if part not in self._numbers:
            self._numbers[part] = len(self.parts)
            self._rows.append(part_rows(self.couples.field, part, self._rows))
            self.parts.append(part)
        return self._numbers[part]

    def tie_of(self, number):
        """The tie whose last part this is."""
        return Tie(one_form(self.parts[:number + 1], TIE_KINDS))

    def class_numbers(self, rounds):
        """For each class of the last one of these partings the number of a part that fits just its couples."""
        numbers = []
        for turn, colors in enumerate(rounds):
            made = []
            for pairs in self.couples.classes_of(colors):
                if turn == 0:
                    made.append(self._narrowed(None, pairs, {}, []))
                else:
                    ahead = rounds[turn - 1]
                    made.append(self._narrowed(numbers[ahead[pairs[0]]], pairs, ahead, numbers))
            numbers = made
        return numbers

    def _narrowed(self, number, pairs, ahead, numbers):
        """The number of a part that fits just these couples, of those that the part with this number fits."""
        wanted = [0] * self.couples.field.many
        for one, other in pairs:
            wanted[one] = wanted[one] | 1 << other
        if number is None:
            number = self.put(("any",))
        while self._rows[number] != wanted:
            more = self._first_more(self._rows[number], wanted)
            parting = self._parting(pairs[0], more, ahead, numbers)
            is_whole = self.parts[number] == ("any",)
            number = parting if is_whole else self.put(("both", number, parting))
        return number

    def _first_more(self, rows, wanted):
        """The first couple of the rows that is none of the wanted ones."""
        for one, row in enumerate(rows):
            more = row & ~wanted[one]
            if more:
                return one, bits_of(more)[0]
        return None

    def _parting(self, pair, more, ahead, numbers):
        """The number of a part that fits the pair and not the other one; ahead they are of one class, if any."""
        if not ahead:
            return self._part_by_one(self.couples.facts_of(pair), self.couples.facts_of(more))
        turned, others = ahead[(pair[1], pair[0])], ahead[(more[1], more[0])]
        if turned != others:
            return self.put(("turned", numbers[turned]))
        return self._part_by_one(self._over_parts(pair, ahead, numbers), self._over_parts(more, ahead, numbers))

    def _over_parts(self, pair, ahead, numbers):
        """The parts over two classes each that fit a pair."""
        return [("over", numbers[one], numbers[other]) for one, other in self.couples.steps_of(pair, ahead)]

    def _part_by_one(self, own, others):
        """One of the own parts that is none of the others, or else none of the others that is none of its own."""
        for part in own:
            if part not in others:
                return self.put(part)
        for part in others:
            if part not in own:
                return self.put(("not", self.put(part)))
        return None
