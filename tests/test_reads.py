import time

from sayable.beside import rooms_beside
from sayable.changes import changed_room
from sayable.reads import does_fit, reading_of, readings_in
from sayable.rooms import Room
from sayable.sayings import (Saying, above_of, any_thing, at_least, both_of, every_of, no_thing, of_word, some_of, top_of)
from tests import plain
from tests.helpers import Case, ODD_VALUES, drawing, drawn_room, drawn_saying


def the_cups():
    return Room(["a", "b", "c"], {"cup": ["a", "b", "c"], "red": ["b"]}, {"left": [("a", "b"), ("b", "c")]}, {"size": {"a": 5, "b": 3}})


class Readings(Case):
    def test_examples(self):
        cups, red = the_cups(), some_of("left", of_word("red"))
        self.assertEqual([reading_of(cups, red), reading_of(cups, every_of("left", no_thing())),
                          reading_of(cups, some_of("left", of_word("red"), True)), does_fit(cups, red, "b")], [("a",), ("c",), ("c",), False])
        self.assertEqual([reading_of(cups, top_of("size", of_word("cup"))), reading_of(cups, above_of("size", "cup")),
                          reading_of(cups, above_of("size", "red")), reading_of(cups, of_word("it"), {"it": ["c"]})],
                         [("a",), ("a",), (), ("c",)])
        self.assertEqual([readings_in([cups, cups.kept(["c", "b"])], of_word("cup")), reading_of(cups, ~top_of("size", any_thing()))],
                         [(("a", "b", "c"), ("b", "c")), ("b", "c")])

    def test_against_the_table(self):
        rng = drawing(21)
        seen = set()
        for _ in range(900):
            room = drawn_room(rng, 5, 2, 2, 2)
            saying = drawn_saying(rng, room, 7)
            seen |= {part[0] for part in saying.parts} | {part[-2] for part in saying.parts if part[0] in ("some", "every", "least")}
            wanted = plain.reading(room, saying)
            self.assertEqual(reading_of(room, saying), wanted)
            self.assertEqual([does_fit(room, saying, thing) for thing in room], [thing in wanted for thing in room])
        self.assertEqual(seen, {*plain.ALL_KINDS, "on", "back"})

    def test_least_of_many(self):
        room = Room([f"t{k}" for k in range(40)], {"w": [f"t{k}" for k in range(0, 40, 2)]},
                    {"l": [(f"t{k}", f"t{j}") for k in range(40) for j in range(k + 1)]})
        for many in (2, 3, 20, 39, 40):
            self.assertEqual(reading_of(room, at_least(many, "l", any_thing())), room.things[many - 1:])
            self.assertEqual(reading_of(room, at_least(many, "l", of_word("w"))), room.things[2 * many - 2:])
            self.assertEqual(reading_of(room, at_least(many, "l", any_thing(), True)), room.things[:41 - many])

    def test_top_and_above(self):
        def sized(**numbers):
            return Room(["a", "b", "c", "d", "e"], {"w": ["a", "b", "c", "d"]}, {}, {"s": numbers})

        for numbers, top, above in (({}, "", ""), ({"a": 1}, "a", ""), ({"a": 1, "b": 1}, "ab", ""), ({"a": 2, "b": 1}, "a", "a"),
                                    ({"a": 3, "b": 2, "c": 1}, "a", "a"), ({"a": 3, "b": 2, "c": 1, "d": 0}, "a", "ab"),
                                    ({"a": 3, "b": 3, "c": 1, "d": 0}, "ab", "ab"), ({"a": 1, "e": 2}, "a", ""),
                                    ({"a": -5, "b": -6, "c": -6}, "a", "a"), ({"a": 1, "b": 1, "c": 0}, "ab", "")):
            room = sized(**numbers)
            self.assertEqual("".join(reading_of(room, top_of("s", of_word("w")))), top)
            self.assertEqual("".join(reading_of(room, above_of("s", "w"))), above)
        self.assertEqual(reading_of(sized(a=1, e=2), top_of("s", any_thing())), ("e",))
        self.assertEqual(reading_of(sized(a=1, e=2), top_of("s", no_thing())), ())
        self.assertEqual(reading_of(sized(a=1, b=2), top_of("s", top_of("s", of_word("w")))), ("b",))

    def test_further_words(self):
        rng = drawing(22)
        for _ in range(200):
            room = drawn_room(rng, 5, 1, 1, 1)
            more = {name: [rng.choice(room.things) for _ in range(rng.randint(0, 6))] for name in ("it", "other", "x.y")}
            named = Room(room.things, {**room.word_lists(), **{name: sorted(set(more[name])) for name in more}}, room.link_lists(),
                         room.scale_dicts())
            saying = drawn_saying(rng, named, 6)
            self.assertEqual(reading_of(room, saying, more), plain.reading(room, saying, more))
            self.assertEqual(reading_of(room, saying, {name: tuple(more[name]) for name in more}), reading_of(named, saying))
        cups = the_cups()
        self.assertEqual(reading_of(cups, above_of("size", "it"), {"it": ["b", "a", "b", "b"]}), ("a",))
        self.assertEqual(reading_of(cups, above_of("size", "it"), {"it": ["b", "c"]}), ())
        self.assertEqual(reading_of(cups, of_word("red"), {}), ("b",))
        self.assertEqual(reading_of(cups, of_word("left"), {"left": []}), ())
        self.assertEqual(reading_of(cups, of_word("a"), more={"a": ("a",)}), ("a",))

    def test_what_more_was_may_change(self):
        more = {"it": ["a"]}
        self.assertEqual(reading_of(the_cups(), of_word("it"), more), ("a",))
        self.assertEqual(more, {"it": ["a"]})

    def test_errors_of_reading(self):
        cups, bad = the_cups(), of_word("blue")
        for value in ODD_VALUES + (str(cups), [cups]):
            self.raises(("BadRoom", "room"), reading_of, value, value)
            self.raises(("BadRoom", "room"), does_fit, value, value, value)
        for value in ODD_VALUES + ("word red", bad.parts):
            self.raises(("BadSaying", "saying"), reading_of, cups, value, {"red": [None]})
            self.raises(("BadSaying", "saying"), does_fit, cups, value, "z")
            self.raises(("BadSaying", "saying"), readings_in, [cups], value)
        for value in ODD_VALUES + ("z", "red"):
            self.raises(("NoThing", value), does_fit, cups, bad, value)
            self.raises(("NoThing", value), reading_of, cups, bad, {"it": ["a", value, None]})
            self.raises(("NoThing", value), reading_of, cups, bad, {"it": ["a"], "x": [value], "y": [5]})
        self.raises(("Twice", "cup"), reading_of, cups, bad, {"red": [None], "it": [None], "cup": [5]})
        self.raises(("NoThing", "first"), reading_of, cups, bad, {"z": ["later"], "b": ["first", "later"]})

    def test_errors_of_the_stock(self):
        cups = the_cups()
        self.raises(("NoWord", "blue"), reading_of, cups, of_word("blue"))
        self.raises(("NoLink", "right"), reading_of, cups, some_of("right", of_word("red")))
        self.raises(("NoWord", "blue"), reading_of, cups, every_of("right", of_word("blue"), True))
        self.raises(("NoLink", "right"), reading_of, cups, at_least(2, "right", of_word("cup") & of_word("red")) & of_word("blue"))
        self.raises(("NoScale", "age"), reading_of, cups, top_of("age", of_word("red")))
        self.raises(("NoScale", "age"), reading_of, cups, above_of("age", "blue"))
        self.raises(("NoWord", "blue"), reading_of, cups, above_of("size", "blue"))
        self.raises(("NoWord", "left"), reading_of, cups, of_word("left"))
        self.raises(("NoWord", "blue"), does_fit, cups, of_word("blue"), "a")
        self.raises(("NoWord", "it"), reading_of, cups, of_word("it") & of_word("that"), {"that": []})
        self.raises(("NoWord", "blue"), readings_in, [cups, cups], of_word("red") | of_word("blue"))

    def test_rooms(self):
        cups, red = the_cups(), of_word("red")
        for value in (None, 5, "ab", {}, [], (), [None], [cups, 5], [[cups]], {"a": cups}, cups, True):
            self.raises(("BadBook", "rooms"), readings_in, value, None)
        self.raises(("Unlike", "stock"), readings_in, [cups, cups.cut(scales=[])], None)
        self.raises(("Unlike", "stock"), readings_in, [cups] * 70 + [cups.cut(["red"])], None)
        self.raises(("TooMany", "rooms", 64), readings_in, (cups,) * 65, None)
        self.assertEqual(readings_in((cups,) * 64, red), (("b",),) * 64)

    def test_in_cut_kept_renamed_named_rooms(self):
        rng = drawing(23)
        for _ in range(80):
            room = drawn_room(rng, 5, 2, 2, 1)
            saying = drawn_saying(rng, room, 6)
            cut = room.cut(saying.words, saying.links, saying.scales)
            names = {thing: f"x{number}" for number, thing in enumerate(room)}
            self.assertEqual(reading_of(cut, saying), reading_of(room, saying))
            self.assertEqual(reading_of(room.renamed(names), saying), tuple(names[t] for t in reading_of(room, saying)))
            named = room.named(room.things[:2])
            self.assertEqual(reading_of(named, saying), reading_of(room, saying))
            self.assertEqual(reading_of(named, of_word("name." + room.things[0])), room.things[:1])
            kept = room.kept(room.things[1:] or room.things)
            self.assertEqual(reading_of(kept, saying), plain.reading(kept, saying))

    def test_side_by_side(self):
        rng = drawing(24)
        kinds = [kind for kind in plain.ALL_KINDS if kind not in ("top", "above")]
        for _ in range(80):
            rooms = [drawn_room(rng, 4, 2, 2, 1) for _ in range(rng.randint(1, 4))]
            saying = drawn_saying(rng, rooms[0], 7, kinds)
            beside = reading_of(rooms_beside(*rooms), saying)
            self.assertEqual(beside, tuple(f"r{k}.{t}" for k, got in enumerate(readings_in(rooms, saying)) for t in got))

    def test_one_thing_more(self):
        """Point 16: what a new thing with a word and a number does to above."""
        rng = drawing(25)
        for _ in range(150):
            room = drawn_room(rng, 5, 1, 0, 1)
            saying = above_of("s0", "w0")
            ahead = reading_of(room, saying)
            number = rng.randint(-3, 3)
            put = changed_room(room, ("put", "new"))
            both = changed_room(changed_room(put, ("mark", "w0", "new")), ("number", "s0", "new", number))
            for thing in room:
                own = room.number_of("s0", thing)
                if thing in ahead and number < own:
                    self.assertTrue(does_fit(both, saying, thing))
                if thing not in ahead and (own is None or number >= own):
                    self.assertFalse(does_fit(both, saying, thing))
            for turned in (put, changed_room(put, ("mark", "w0", "new")), changed_room(put, ("number", "s0", "new", number))):
                self.assertEqual(reading_of(turned, saying), ahead)

    def test_great_sayings_are_soon_read(self):
        start = time.time()
        rng = drawing(26)
        room = Room([f"t{k}" for k in range(40)], {"w": ["t0"]}, {"l": [(f"t{k}", f"t{j}") for k in range(40) for j in range(40)
                                                                     if rng.random() < 0.5]})
        saying = some_of("l", of_word("w"))
        for number in range(100):
            saying = at_least(2 + number % 39, "l", saying, number % 2 == 0) if number % 3 else ~saying
        self.assertEqual(saying.depth, 1 + 66)
        reading_of(room, saying)
        doubled = some_of("l", of_word("w"))
        wanted = reading_of(room, doubled)
        for _ in range(40):
            doubled = doubled & doubled
        self.assertEqual(reading_of(room, doubled), wanted)
        for _ in range(40):
            doubled = doubled | doubled
        self.assertEqual(reading_of(room, doubled), wanted)
        long = both_of(*[some_of("l", of_word("w"), k % 2 == 1) for k in range(200)])
        reading_of(room, long)
        self.assertEqual(reading_of(room, Saying([("word", "w")] + [("not", k) for k in range(100)])), ("t0",))
        self.assertLess(time.time() - start, 10)
