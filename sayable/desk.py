"""The desk: values under names, and a watched room, told line by line."""

from sayable.checks import is_list
from sayable.desklines import read_line
from sayable.deskwork import KEEPING, answer_to, kept_by, names_or_none
from sayable.errors import BadLine, BadText, NoName, Nothing, SayError
from sayable.watched import Watched

HOUSE_WORDS = ("watch", "do", "undo", "again", "house")


class Desk:
    """Values under names, and at most one house; the deeds of the desk can be taken back."""

    def __init__(self, lines=()):
        self._kept = {}
        self._house = None
        # For each deed its line, the name that it gave a value, what this kept before, and the house before.
        self._deeds = []
        self.run(lines)

    def __eq__(self, other):
        return isinstance(other, Desk) and self._kept == other._kept and self._house == other._house

    def tell(self, line):
        """Does what a line tells; its answer."""
        word, items = read_line(line, self._kept)
        if word in HOUSE_WORDS:
            return self._tell_house(line, word, items)
        if word == "open":
            self._stand(line, None, None, Watched(items[0]))
            return "open"
        if word not in KEEPING:
            return answer_to(word, items)
        value, answer = kept_by(word, items)
        if value is not None:
            self._stand(line, items[0], value, self._house)
        return answer

    def _tell_house(self, line, word, items):
        if self._house is None:
            raise Nothing()
        # The house itself stays as it is, so that the deed can be taken back.
        house = self._house.copied()
        if word == "house":
            return str(house.room)
        if word == "watch":
            turned = house.watch(items[0], items[1])
        elif word == "do":
            turned = house.do(items[0])
        elif word == "undo":
            turned = house.undo()
        else:
            turned = house.again()
        self._stand(line, None, None, house)
        return names_or_none(turned)

    def _stand(self, line, name, value, house):
        """Lets a deed of the desk stand: a name, None for none, keeps a value from now on, and this is the house."""
        self._deeds.append((line, name, self._kept.get(name), self._house))
        if name is not None:
            self._kept[name] = value
        self._house = house

    def run(self, lines):
        """The answers to some lines, in order; where one raises an error, all is as it was."""
        if not is_list(lines):
            raise BadLine(0, BadText(0, 0))
        many = len(self._deeds)
        answers = []
        for index, line in enumerate(lines):
            try:
                answers.append(self.tell(line))
            except SayError as error:
                while len(self._deeds) > many:
                    self.back()
                raise BadLine(index, error)
        return answers

    def back(self):
        """Takes back the last deed that stands, with all that it changed; its line."""
        if not self._deeds:
            raise Nothing()
        line, name, value, house = self._deeds.pop()
        if name is not None:
            if value is None:
                del self._kept[name]
            else:
                self._kept[name] = value
        self._house = house
        return line

    def told_lines(self):
        """The lines of the deeds that stand, in order."""
        return tuple([row[0] for row in self._deeds])

    def kept_names(self):
        """The names that keep a value, ascending."""
        return tuple(sorted(self._kept))

    def value_of(self, name):
        """What a name keeps."""
        if not isinstance(name, str) or name not in self._kept:
            raise NoName(name)
        return self._kept[name]

    def house_now(self):
        """A Watched that is equal to the house; None if none is open."""
        if self._house is None:
            return None
        return self._house.copied()
