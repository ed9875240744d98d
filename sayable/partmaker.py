"""Making sayings part by part, with what each part fits at hand."""

from sayable.fits import fitted_mask
from sayable.sayings import Saying


class PartMaker:
    """Parts over the places of a field, each different one once, and the masks of what they fit."""

    def __init__(self, field):
        self.field = field
        self.parts = []
        self.masks = []
        self._numbers = {}

    def put(self, part):
        """The number of a part; a new one is put behind the others."""
        if part not in self._numbers:
            self._numbers[part] = len(self.parts)
            self.parts.append(part)
            self.masks.append(self._mask_of(part))
        return self._numbers[part]

    def _mask_of(self, part):
        if part[0] == "word":
            return self.field.word_mask(part[1])
        rows = ()
        if part[0] in ("some", "every", "least"):
            rows = self.field.link_rows(part[-3], part[-2] == "back")
        return fitted_mask(part, self.masks, self.field.whole, rows)

    def does_fit(self, number, place):
        """Whether a part fits the place with this number."""
        return self.masks[number] >> place & 1 == 1

    def saying_of(self, number):
        """The saying whose last part this is."""
        return Saying(self.parts[:number + 1])
