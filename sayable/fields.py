"""The places of some rooms of one stock, numbered, with what is told of them as masks."""

from sayable.bits import bits_of, mask_of
from sayable.fits import scaled_mask


class Field:
    """All places of some rooms of one stock, in order: place n is bit n of each mask.

    Words tells the only ones that count; None: all of the stock.
    """

    def __init__(self, rooms, words=None):
        self.rooms = tuple(rooms)
        self.all_places = tuple([(index, thing) for index, room in enumerate(rooms) for thing in room.things])
        self.many = len(self.all_places)
        self.whole = (1 << self.many) - 1
        self.words = rooms[0].words if words is None else tuple(words)
        self.links = rooms[0].links
        self.scales = rooms[0].scales
        self._numbers = {place: number for number, place in enumerate(self.all_places)}
        self.starts = [self._numbers[(index, room.things[0])] for index, room in enumerate(rooms)]
        self._masks = {word: self._joined_mask(word) for word in self.words}
        self._rows = {(link, back): self._joined_rows(link, back) for link in self.links for back in (False, True)}

    def number_of_place(self, place):
        """The number of a place, told as a list or a tuple."""
        return self._numbers[(place[0], place[1])]

    def places_in(self, mask):
        """The places of a mask, in order."""
        return tuple([self.all_places[number] for number in bits_of(mask)])

    def crowds_in(self, mask):
        """For each room the things of the places of a mask, in order."""
        crowds = [[] for _ in self.rooms]
        for index, thing in self.places_in(mask):
            crowds[index].append(thing)
        return tuple([tuple(crowd) for crowd in crowds])

    def mask_of_places(self, places):
        """The mask of told places."""
        return mask_of([self.number_of_place(place) for place in places])

    def room_masks(self):
        """For each room the mask of its places."""
        return [(1 << len(room)) - 1 << start for start, room in zip(self.starts, self.rooms)]

    def word_mask(self, word):
        """The places of which a word holds."""
        return self._masks[word]

    def link_rows(self, link, back):
        """For each place the mask of those to which a link leads, read on or back."""
        return self._rows[(link, back)]

    def scaled_places(self, kind, scale, mask):
        """What of the mask a part that bears this scale fits, top or above, room by room."""
        fitted = 0
        for start, room in zip(self.starts, self.rooms):
            here = mask >> start & (1 << len(room)) - 1
            fitted = fitted | scaled_mask(kind, room.scale_row(scale), here) << start
        return fitted

    def _joined_mask(self, word):
        mask = 0
        for start, room in zip(self.starts, self.rooms):
            mask = mask | room.word_mask(word) << start
        return mask

    def _joined_rows(self, link, back):
        rows = []
        for start, room in zip(self.starts, self.rooms):
            rows.extend([row << start for row in room.link_rows(link, back)])
        return tuple(rows)

    def ways_to_read(self, back):
        """The links, ascending, each read on and then, if so told, back: pairs (link, whether back)."""
        return [(link, way) for link in self.links for way in ((False, True) if back else (False,))]
