import itertools
import time

from sayable.changes import changed_room
from sayable.check_sturdy import shows_sturdy
from sayable.papers import Denial, Paper
from sayable.rooms import Room
from sayable.said import say_book
from sayable.sayings import above_of, any_thing, no_thing, of_word, some_of, top_of
from sayable.sturdy import Shaken, Sturdy, rooms_made, say_sturdy, sturdy_book, sturdy_reading
from tests import plain
from tests.helpers import Case, ODD_VALUES, drawing, drawn_room, drawn_saying
from tests.test_rooms import the_room
from tests.test_watched import can_be_done, drawn_deed

NO_DEEDS = ODD_VALUES + ("mark", ("mark", "red", "a"), [("mark", "red")], [("mark", "red", "a"), None], [("put", "A")], [("number", "size", "a", True)],
                         [("number", "size", "a", 10 ** 9)], [("go", "a")], {("take", "a"): 1}, [{"take": "a"}], ["take"], [("take",)], [("take", "a", "b")])


def the_deeds():
    return [("mark", "red", "a"), ("untie", "left", "a", "b"), ("take", "b"), ("unmark", "red", "b")]


def behind(room, deeds, picked):
    for index in picked:
        room = can_be_done(room, deeds[index]) or room
    return room


def all_sets(deeds):
    return [picked for size in range(len(deeds) + 1) for picked in itertools.combinations(range(len(deeds)), size)]


def drawn_deeds(rng, room, most=4):
    """Deeds, some of which can be done alone, some behind others, some never."""
    deeds, now = [], room
    for _ in range(rng.randint(0, most)):
        deed = drawn_deed(rng, now)
        if rng.random() < 0.8:
            now = can_be_done(now, deed) or now
        deeds.append(deed)
    return deeds


class SturdySayings(Case):
    def test_papers(self):
        sturdy, shaken = Sturdy(things=["a"]), Shaken([0, 2])
        self.assertEqual((sturdy.word, sturdy.parts, sturdy.things, bool(sturdy)), ("sturdy", (("a",),), ("a",), True))
        self.assertEqual((shaken.word, shaken.parts, shaken.picked, bool(shaken)), ("shaken", ((0, 2),), (0, 2), False))
        self.assertTrue(shaken == Shaken((0, 2)) and sturdy == Sturdy(("a",)))
        self.assertFalse(shaken == Denial("shaken", (0, 2)) or sturdy == Paper("sturdy", ("a",)))
        self.assertIsInstance(shaken, Denial)
        self.assertNotIsInstance(sturdy, Denial)

    def test_examples(self):
        room, deeds = the_room(), the_deeds()
        self.assertEqual([sturdy_reading(room, of_word("cup"), deeds[:2]).things, sturdy_reading(room, of_word("red"), deeds).picked,
                          sturdy_reading(room, some_of("left", of_word("cup")), deeds).picked], [("a", "b", "c"), (0,), (1,)])
        self.assertEqual([len(rooms_made(room, deeds[2:])), sturdy_book(room, ["a"], deeds[2:]).meant], [3, (("a",), ("a",), ("a",))])
        self.assertEqual([say_sturdy(room, ["a"], deeds[:1], "plain").saying.depth, bool(say_sturdy(room, ["b"], deeds[:1], "plain"))], [1, False])
        self.raises(("NoThing", "b"), sturdy_book, room, ["b"], deeds)

    def test_rooms_made(self):
        rng = drawing(381)
        many = 0
        for _ in range(100):
            room = drawn_room(rng, 3, 2, 1, 1)
            deeds = drawn_deeds(rng, room)
            wanted = []
            for picked in all_sets(deeds):
                made = behind(room, deeds, picked)
                if not any(made == one for one in wanted):
                    wanted.append(made)
            self.assertEqual(rooms_made(room, deeds), tuple(wanted))
            self.assertEqual(rooms_made(room, tuple(map(list, deeds))), tuple(wanted))
            self.assertTrue(wanted[0] == room)
            many += 1 < len(wanted) < len(all_sets(deeds))
        self.assertGreater(many, 30)

    def test_readings(self):
        rng = drawing(382)
        told = {Sturdy: 0, Shaken: 0, 2: 0}
        for _ in range(500):
            room = drawn_room(rng, 3, 2, 1, 1)
            deeds, saying = drawn_deeds(rng, room), drawn_saying(rng, room, 4)
            first = plain.reading(room, saying)
            shaking = [picked for picked in all_sets(deeds) if set(plain.reading(behind(room, deeds, picked), saying)) != set(first)]
            paper = sturdy_reading(room, saying, deeds)
            self.assertTrue(paper == (Shaken(shaking[0]) if shaking else Sturdy(first)))
            self.assertIs(shows_sturdy(room, saying, deeds, paper), True)
            for picked in all_sets(deeds):
                wanted = picked in shaking and len(picked) == len(shaking[0])
                self.assertIs(shows_sturdy(room, saying, deeds, Shaken(list(picked))), wanted)
            self.assertIs(shows_sturdy(room, saying, deeds, Sturdy(list(first))), not shaking)
            if len(first) > 1:
                self.assertIs(shows_sturdy(room, saying, deeds, Sturdy(first[::-1])), False)
            told[paper.__class__] += 1
            told[2] += bool(shaking) and len(shaking[0]) > 1
            # A deed more never makes it sturdy.
            if shaking:
                self.assertFalse(sturdy_reading(room, saying, [*deeds, drawn_deed(rng, room)]))
        self.assertGreater(min(told.values()), 3)

    def test_two_deeds_together(self):
        """Neither alone shakes it; of several such pairs the first one is told."""
        room = Room(["a", "b"], {"v": ["b"], "w": []}, {"l": []})
        both = of_word("v") & of_word("w")
        deeds = [("tie", "l", "a", "a"), ("mark", "w", "a"), ("put", "c"), ("mark", "v", "a"), ("mark", "w", "c"), ("mark", "v", "c")]
        self.assertEqual(sturdy_reading(room, both, deeds).picked, (1, 3))
        self.assertEqual(sturdy_reading(room, both, deeds[:3] + deeds[4:]).picked, (2, 3, 4))
        self.assertEqual(sturdy_reading(room, both, deeds[4:] + deeds[2:3]).things, ())
        self.assertEqual([shows_sturdy(room, both, deeds, Shaken(picked)) for picked in ([1, 3], [3, 1], [2, 4, 5], [1, 2, 3], [1], [])],
                         [True, False, False, False, False, False])

    def test_the_same_things_in_another_order(self):
        room = the_room()
        deeds = [("take", "a"), ("put", "a"), ("mark", "cup", "a")]
        self.assertEqual(sturdy_reading(room, of_word("cup"), deeds).picked, (0,))
        self.assertEqual([made.things for made in rooms_made(room, deeds)], [("a", "b", "c"), ("b", "c"), ("b", "c", "a"), ("b", "c", "a")])
        self.assertEqual(sturdy_reading(room, of_word("red"), deeds).things, ("b",))
        single = Room(["a", "b"], {"w": ["b"], "v": []}, {})
        turned = [("take", "a"), ("put", "a")]
        self.assertEqual(sturdy_reading(single, any_thing(), turned[1:]).things, ("a", "b"))
        self.assertEqual(sturdy_reading(single, any_thing(), turned).picked, (0,))

    def test_books(self):
        rng = drawing(383)
        said = 0
        for _ in range(100):
            room = drawn_room(rng, 3, 2, 1)
            deeds = drawn_deeds(rng, room, 3)
            crowd = [t for t in room if rng.random() < 0.5]
            rng.shuffle(crowd)
            made = rooms_made(room, deeds)
            lacking = [t for one in made for t in crowd if t not in one]
            if lacking:
                self.raises(("NoThing", lacking[0]), sturdy_book, room, crowd, deeds)
                self.raises(("NoThing", lacking[0]), say_sturdy, room, crowd, deeds, "not")
                continue
            book = sturdy_book(room, tuple(crowd), deeds)
            self.assertEqual((book.rooms, book.meant), (made, tuple(tuple(t for t in one if t in crowd) for one in made)))
            for way in plain.TWELVE:
                paper = say_sturdy(room, crowd, deeds, way)
                self.assertTrue(paper == say_book(book, way))
                if paper:
                    said += 1
                    self.assertIsInstance(sturdy_reading(room, paper.saying, deeds), Sturdy)
        self.assertGreater(said, 200)

    def test_how_many_deeds(self):
        room = the_room()
        deeds = [("mark", "red", "a")] * 8
        self.assertEqual(len(rooms_made(room, deeds)), 2)
        self.assertEqual(len(sturdy_book(room, ["a"], deeds).rooms), 2)
        self.assertEqual(sturdy_reading(room, of_word("red"), deeds).picked, (0,))
        self.assertIs(shows_sturdy(room, of_word("red"), deeds, Shaken([7])), True)
        nine = deeds + [("take", "zz")]
        self.raises(("TooMany", "deeds", 8), rooms_made, room, nine)
        self.raises(("TooMany", "deeds", 8), sturdy_book, room, ["a"], nine)
        self.raises(("TooMany", "deeds", 8), sturdy_reading, room, of_word("red"), nine)
        self.raises(("TooMany", "deeds", 6), say_sturdy, room, ["a"], deeds[:7], "not")
        self.assertTrue(say_sturdy(room, ["b"], [("mark", "cup", "a")] * 6, "plain"))
        for value in (Shaken([0]), Shaken([7]), Sturdy(["b"]), None):
            self.assertIs(shows_sturdy(room, of_word("red"), nine, value), False)
            self.assertIs(shows_sturdy(room, of_word("cup"), nine, Sturdy(["a", "b", "c"])), False)

    def test_too_many_rooms(self):
        things = [f"t{k}" for k in range(7)]
        room = Room(things, {"w": []}, {})
        marks = [("mark", "w", thing) for thing in things]
        self.assertEqual(len(rooms_made(room, marks)), 128)
        self.raises(("TooMany", "rooms", 64), sturdy_book, room, ["t0"], marks)
        self.assertEqual(len(sturdy_book(room, ["t0"], marks[:6]).rooms), 64)
        self.raises(("TooMany", "places", 100), say_sturdy, room, ["t0"], marks[:6], "not")
        self.raises(("NoThing", "t6"), sturdy_book, room, ["t0", "t6", "t5"], marks[:5] + [("take", "t6"), ("take", "t5"), ("mark", "w", "t5")])

    def test_errors(self):
        room, deeds = the_room(), the_deeds()
        red = of_word("red")
        for value in ODD_VALUES + (str(room),):
            self.raises(("BadRoom", "room"), rooms_made, value, value)
            self.raises(("BadRoom", "room"), sturdy_reading, value, value, value)
            self.raises(("BadRoom", "room"), shows_sturdy, value, value, value, value)
            self.raises(("BadRoom", "room"), sturdy_book, value, value, value)
            self.raises(("BadRoom", "room"), say_sturdy, value, value, value, value)
            self.raises(("BadSaying", "saying"), sturdy_reading, room, value, value)
            self.raises(("BadSaying", "saying"), shows_sturdy, room, value, value, value)
        for value in NO_DEEDS:
            if value not in ([], ()):
                self.raises(("BadDeed", "deeds"), rooms_made, room, value)
                self.raises(("BadDeed", "deeds"), sturdy_reading, room, of_word("gone"), value)
                self.raises(("BadDeed", "deeds"), shows_sturdy, room, of_word("gone"), value, value)
                self.raises(("BadDeed", "deeds"), sturdy_book, room, ["zz"], value)
                self.raises(("BadDeed", "deeds"), say_sturdy, room, ["zz"], value, "no")
        for value in ODD_VALUES + ("a", ["a", "a"], ["A"], ["a", None], {"a": 1}, [["a"]], {"a"}):
            if value not in ([], ()):
                self.raises(("BadBook", "crowd"), sturdy_book, room, value, value)
                self.raises(("BadBook", "crowd"), say_sturdy, room, value, value, value)
        for value in ODD_VALUES + ("Plain",):
            self.raises(("NoWay", value), say_sturdy, room, ["zz"], deeds * 3, value)
        many = deeds * 3
        self.raises(("NoThing", "zz"), say_sturdy, room, ["a", "zz", "yy"], many, "not")
        self.raises(("NoThing", "zz"), sturdy_book, room, ["b", "zz", "yy"], many)
        for saying, wanted in ((of_word("gone"), ("NoWord", "gone")), (some_of("right", red), ("NoLink", "right")), (top_of("age", red), ("NoScale", "age")),
                               (above_of("age", "gone"), ("NoScale", "age"))):
            self.raises(wanted, sturdy_reading, room, saying, many)
            self.raises(wanted, shows_sturdy, room, saying, many, None)
        odd = [("mark", "gone", "a"), ("take", ["x"]), ("tie", "left", "zz", None), ("number", None, "a", 3), ("put", "a"), ("untie", "left", "c", "c")]
        self.assertEqual(rooms_made(room, odd), (room,))
        self.assertEqual(sturdy_reading(room, red, odd).things, ("b",))

    def test_any_values(self):
        room, deeds, red = the_room(), the_deeds(), of_word("red")
        for value in ODD_VALUES + (Paper("sturdy", ("b",)), Denial("shaken", (0,)), "b", (0,), (True,), (0.0,), [0, 0], [4], [-4], ["0"], {0: 1}, 0, [None]):
            self.assertIs(shows_sturdy(room, red, deeds, value), False)
            self.assertIs(shows_sturdy(room, red, deeds, Sturdy(value)), False)
            if value != (0,) and value != (0.0,):
                self.assertIs(shows_sturdy(room, red, deeds, Shaken(value)), False)
            if value != ("b",):
                self.assertIs(shows_sturdy(room, red, [], Sturdy(value)), False)
        self.assertIs(shows_sturdy(room, red, deeds, Shaken((0.0,))), False)
        self.assertIs(shows_sturdy(room, red, deeds, Shaken((False,))), False)
        self.assertIs(shows_sturdy(room, red, [], Sturdy(["b"])), True)
        self.assertIs(shows_sturdy(room, no_thing(), [], Sturdy([])), True)
        self.assertIs(shows_sturdy(room, red, [("mark", "cup", "a")], Sturdy(["b"])), True)
        self.assertIs(shows_sturdy(room, red, deeds, Shaken([1])), False)

    def test_soon_enough(self):
        start = time.time()
        rng = drawing(384)
        things = [f"t{k}" for k in range(40)]
        room = Room(things, {f"w{k}": rng.sample(things, 20) for k in range(60)}, {f"l{k}": [(t, u) for t in things[:20] for u in rng.sample(things[20:], 15)] for k in range(8)},
                    {f"s{k}": {t: rng.randint(-9, 9) for t in things} for k in range(8)})
        deeds = [("number", f"s{k}", f"t{k}", 100) for k in range(8)]
        self.assertEqual(len(rooms_made(room, deeds)), 256)
        paper = sturdy_reading(room, top_of("s7", any_thing()), deeds)
        self.assertTrue(shows_sturdy(room, top_of("s7", any_thing()), deeds, paper))
        small = Room(things[:16], {"w": things[:3]}, {f"l{k}": [(t, u) for t in things[:16] for u in things[:16] if rng.random() < 0.2] for k in range(3)})
        for way in plain.TEN:
            say_sturdy(small, things[:2], [("mark", "w", "t9"), ("unmark", "w", "t0")], way)
        self.assertLess(time.time() - start, 60)
