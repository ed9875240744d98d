"""Rooms: things, and what words, links and scales tell of them."""

from sayable.bits import bits_of
from sayable.checks import is_list, is_name, joined_name
from sayable.errors import BadRoom, NoLink, NoScale, NoThing, NoWord, Twice
from sayable.lists import need_once
from sayable.roomcheck import checked_links, checked_scales, checked_things, checked_words, need_few
from sayable.roomtext import read_room, room_words


class Room:
    """Things in an order, and the words, links and scales that are told of them."""

    def __init__(self, things, words, links, scales=None):
        at = checked_things(things)
        masks = checked_words(words, at)
        rows = checked_links(links, at)
        numbers = checked_scales(scales, at)
        need_few(at, masks, rows, numbers)
        self.things = tuple(at)
        self.words = tuple(masks)
        self.links = tuple(rows)
        self.scales = tuple(numbers)
        self.stock = (self.words, self.links, self.scales)
        self._at = at
        self._masks = masks
        self._rows = rows
        self._numbers = numbers

    def __len__(self):
        return len(self.things)

    def __iter__(self):
        return iter(self.things)

    def __contains__(self, thing):
        return isinstance(thing, str) and thing in self._at

    def __eq__(self, other):
        if not isinstance(other, Room):
            return False
        return (self.things == other.things and self._masks == other._masks
                and self._rows == other._rows and self._numbers == other._numbers)

    def __str__(self):
        return " ".join(room_words(self))

    @classmethod
    def read(cls, text):
        """The room with this text."""
        things, words, links, scales = read_room(text)
        return cls(things, words, links, scales)

    def number_of_thing(self, thing):
        """The number of a thing in the order of the room."""
        if thing not in self:
            raise NoThing(thing)
        return self._at[thing]

    def word_mask(self, word):
        """The things of which a word holds, as a mask."""
        if not isinstance(word, str) or word not in self._masks:
            raise NoWord(word)
        return self._masks[word]

    def link_rows(self, link, back=False):
        """For each thing the mask of those to which a link leads from it, or back."""
        if not isinstance(link, str) or link not in self._rows:
            raise NoLink(link)
        rows_on, rows_back = self._rows[link]
        return rows_back if back else rows_on

    def scale_row(self, scale):
        """For each thing its number on a scale, or None."""
        if not isinstance(scale, str) or scale not in self._numbers:
            raise NoScale(scale)
        return self._numbers[scale]

    def things_in(self, mask):
        """The things of a mask, in order."""
        return tuple([self.things[number] for number in bits_of(mask)])

    def holds(self, word, thing):
        """Whether a word holds of a thing."""
        mask = self.word_mask(word)
        return mask >> self.number_of_thing(thing) & 1 == 1

    def things_of(self, word):
        """The things of which a word holds."""
        return self.things_in(self.word_mask(word))

    def leads(self, link, thing, back=False):
        """The things to which a link leads from a thing; back: from which it leads to it."""
        row = self.link_rows(link, back)
        return self.things_in(row[self.number_of_thing(thing)])

    def pairs_of(self, link):
        """The pairs of a link, in order."""
        rows = self.link_rows(link)
        return tuple([(one, self.things[other]) for one, row in zip(self.things, rows) for other in bits_of(row)])

    def number_of(self, scale, thing):
        """The number of a thing on a scale; None if it has none."""
        row = self.scale_row(scale)
        return row[self.number_of_thing(thing)]

    def word_lists(self):
        """The dict from the words to new lists of their things."""
        return {word: list(self.things_of(word)) for word in self.words}

    def link_lists(self):
        """The dict from the links to new lists of their pairs."""
        return {link: list(self.pairs_of(link)) for link in self.links}

    def scale_dicts(self):
        """The dict from the scales to new dicts of their numbers."""
        return {scale: self._numbers_told(scale) for scale in self.scales}

    def _numbers_told(self, scale):
        row = self.scale_row(scale)
        return {thing: number for thing, number in zip(self.things, row) if number is not None}

    def cut(self, words=None, links=None, scales=None):
        """The room with these words, links and scales alone; None: with all."""
        held = self.word_lists() if words is None else self._cut_words(words)
        led = self.link_lists() if links is None else self._cut_links(links)
        numbered = self.scale_dicts() if scales is None else self._cut_scales(scales)
        return Room(self.things, held, led, numbered)

    def _cut_words(self, words):
        if not is_list(words):
            raise BadRoom("words")
        for word in words:
            self.word_mask(word)
        need_once(words)
        return {word: list(self.things_of(word)) for word in words}

    def _cut_links(self, links):
        if not is_list(links):
            raise BadRoom("links")
        for link in links:
            self.link_rows(link)
        need_once(links)
        return {link: list(self.pairs_of(link)) for link in links}

    def _cut_scales(self, scales):
        if not is_list(scales):
            raise BadRoom("scales")
        for scale in scales:
            self.scale_row(scale)
        need_once(scales)
        return {scale: self._numbers_told(scale) for scale in scales}

    def need_things(self, things):
        """Raises what is told of a list of different things of the room."""
        if not is_list(things):
            raise BadRoom("things")
        for thing in things:
            self.number_of_thing(thing)
        need_once(things)

    def kept(self, things):
        """The room with these things alone, and what is told of them."""
        self.need_things(things)
        if not things:
            raise BadRoom("things")
        left = [thing for thing in self.things if thing in things]
        words = {word: [thing for thing in self.things_of(word) if thing in left] for word in self.words}
        links = {link: [pair for pair in self.pairs_of(link) if pair[0] in left and pair[1] in left]
                 for link in self.links}
        told = self.scale_dicts()
        scales = {scale: {thing: told[scale][thing] for thing in told[scale] if thing in left} for scale in told}
        return Room(left, words, links, scales)

    def renamed(self, names):
        """The room with names[t] for each thing t."""
        if not isinstance(names, dict) or len(names) != len(self.things):
            raise BadRoom("names")
        if not all([thing in names and is_name(names[thing]) for thing in self.things]):
            raise BadRoom("names")
        need_once([names[thing] for thing in self.things])
        words = {word: [names[thing] for thing in self.things_of(word)] for word in self.words}
        links = {link: [(names[one], names[other]) for one, other in self.pairs_of(link)] for link in self.links}
        told = self.scale_dicts()
        scales = {scale: {names[thing]: told[scale][thing] for thing in told[scale]} for scale in told}
        return Room([names[thing] for thing in self.things], words, links, scales)

    def named(self, things):
        """The room with a word name.t for each of some things, which holds of it alone."""
        self.need_things(things)
        made = {joined_name("name", thing): [thing] for thing in things}
        for name in made:
            if name in self._masks:
                raise Twice(name)
        return Room(self.things, {**self.word_lists(), **made}, self.link_lists(), self.scale_dicts())
