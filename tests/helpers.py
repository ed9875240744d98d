"""What several tests need: wrong values, errors that are looked at, drawn rooms."""

import random
import unittest

from sayable import errors
from sayable.rooms import Room
from sayable.sayings import Saying

FIELDS = {"NotLet": ("way", "kind"), "Twice": ("name",), "Unlike": ("what",), "Nothing": (), "TooMany": ("what", "most"),
          "BadText": ("line", "word"), "BadLine": ("line", "error")}

# Any values at all, none of them a room, a saying, a name or an integer.
ODD_VALUES = (None, True, False, -1, 10 ** 30, "", "A b", "%", [], (), {}, [[]], [None], {"a": {}}, [[["x"]]], [{}], 2.5,
              b"ab", object(), {1}, "a" * 1000, [1, [2, [3]]], {"x": [1]}, Room, float("nan"))


def fields_of(error):
    name = type(error).__name__
    if name.startswith("Bad") and name not in FIELDS:
        names = ("part",)
    else:
        names = FIELDS.get(name, ("name",))
    return tuple(getattr(error, field) for field in names)


class Case(unittest.TestCase):
    """A test that looks at errors by their class and their fields."""

    def told(self, function, *args, **more):
        """What a call raises: the name of the class, and the fields."""
        try:
            function(*args, **more)
        except errors.SayError as error:
            return (type(error).__name__, *fields_of(error))
        return None

    def raises(self, wanted, function, *args, **more):
        self.assertEqual(self.told(function, *args, **more), wanted, (function, args, more))


def drawn_room(rng, most=5, words=2, links=2, scales=0, prefix="t", ties=0.4):
    things = [f"{prefix}{number}" for number in range(rng.randint(1, most))]
    rng.shuffle(things)
    held = {f"w{k}": [t for t in things if rng.random() < 0.5] for k in range(words)}
    led = {f"l{k}": [(t, u) for t in things for u in things if rng.random() < ties] for k in range(links)}
    numbers = {f"s{k}": {t: rng.randint(-2, 2) for t in things if rng.random() < 0.7} for k in range(scales)}
    return Room(things, held, led, numbers)


def drawn_saying(rng, room, parts=6, kinds=None):
    """A saying with names of the room's stock, its parts drawn one behind the other."""
    kinds = kinds or ["thing", "nothing", "word", "both", "either", "not", "some", "every", "least", "top", "above"]
    lacking = {"word": room.words, "some": room.links, "every": room.links, "least": room.links, "top": room.scales,
               "above": room.scales and room.words}
    kinds = [kind for kind in kinds if lacking.get(kind, True)]
    made = []
    for ahead in range(rng.randint(1, parts)):
        starting = [kind for kind in kinds if kind in ("thing", "nothing", "word", "above")]
        kind = rng.choice(kinds if ahead else starting)
        number = ahead and rng.randrange(ahead)
        way = rng.choice(["on", "back"])
        made.append({
            "thing": lambda: ("thing",), "nothing": lambda: ("nothing",), "word": lambda: ("word", rng.choice(room.words)),
            "both": lambda: ("both", number, rng.randrange(ahead)),
            "either": lambda: ("either", number, rng.randrange(ahead)), "not": lambda: ("not", number),
            "some": lambda: ("some", rng.choice(room.links), way, number),
            "every": lambda: ("every", rng.choice(room.links), way, number),
            "least": lambda: ("least", rng.randint(2, 3), rng.choice(room.links), way, number),
            "top": lambda: ("top", rng.choice(room.scales), number),
            "above": lambda: ("above", rng.choice(room.scales), rng.choice(room.words)),
        }[kind]())
    return Saying(made)


def drawing(seed):
    return random.Random(seed)
