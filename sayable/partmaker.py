"""Making sayings part by part, with what each part fits at hand."""

from sayable.parts import SAYING_KINDS, one_form
from sayable.placeread import part_places
from sayable.sayings import Saying


class PartMaker:
    """Parts over the places of a field, each different one once, and the masks of what they fit."""

    def __init__(self, field):
        self.field = field
        self.parts = []
        self.masks = []
        self._numbers = {}

    def put(self, part):
        """The number of a part; a new one is put behind the others."""
        if part not in self._numbers:
            self._numbers[part] = len(self.parts)
            self.parts.append(part)
            self.masks.append(part_places(self.field, part, self.masks, {}))
        return self._numbers[part]

    def does_fit(self, number, place):
        """Whether a part fits the place with this number."""
        return self.masks[number] >> place & 1 == 1

    def saying_of(self, number):
        """The saying whose last part this is."""
        return Saying(one_form(self.parts[:number + 1], SAYING_KINDS))
