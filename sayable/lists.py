"""Lists of names that were passed."""

from sayable.errors import Twice


def need_once(names):
    """Raises Twice for the first name that is equal to one ahead of it."""
    ahead = set()
    for name in names:
        if name in ahead:
            raise Twice(name)
        ahead.add(name)


def need_crowd(room, crowd):
    """Raises for the first item of a list that is no thing of the room, or is equal to one ahead of it."""
    ahead = []
    for thing in crowd:
        room.number_of_thing(thing)
        ahead.append(thing)
        need_once(ahead)
