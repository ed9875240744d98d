import itertools
import time

from sayable.books import Book
from sayable.check_said import shows_said
from sayable.explained import explain_word, is_enough, needless_words
from sayable.putin import put_in
from sayable.reads import reading_of, readings_in
from sayable.rooms import Room
from sayable.said import Said, Unsaid, say_book
from sayable.sayings import of_word
from sayable.ways import is_way_below, way_lets
from tests import plain
from tests.helpers import Case, ODD_VALUES, drawing, drawn_room, drawn_saying
from tests.test_points import fan


def the_shelf():
    return Room(["a", "b", "c"], {"first": ["a"], "last": ["c"], "red": ["b"]}, {"left": [("a", "b"), ("b", "c")]})


def drawn_shelves(rng):
    """Rooms with three words, of which one often is made of the others."""
    many = rng.choice((1, 1, 2))
    rooms = [drawn_room(rng, 4 if many == 1 else 2, 3, 1, 1, ties=0.3) for _ in range(many)]
    if rng.random() < 0.5:
        return rooms
    made = []
    for room in rooms:
        words = room.word_lists()
        words["w2"] = [t for t in room if room.holds("w0", t) and (rng.random() < 0.1 or room.leads("l0", t))]
        made.append(Room(room.things, words, room.link_lists(), room.scale_dicts()))
    return made


def is_explained(rooms, way, word, by):
    """Against all crowds to which sayings with these words read."""
    meant = [(k, t) for k, room in enumerate(rooms) for t in room.things_of(word)]
    return plain.depth_said(plain.crowd_levels([room.cut(by) for room in rooms], way), meant)


class Explained(Case):
    def test_examples(self):
        shelf = the_shelf()
        found, other = explain_word([shelf], "first", "plain"), explain_word([shelf], "last", "every")
        self.assertEqual([reading_of(shelf, found.saying), found.saying.depth, reading_of(shelf, other.saying),
                          bool(explain_word([shelf], "last", "plain"))], [("a",), 1, ("c",), False])
        self.assertEqual([needless_words([shelf], "plain"), needless_words([shelf], "every"), is_enough([shelf], ["last"], "plain"),
                          is_enough([shelf], ["red"], "plain")], [("first", "red"), ("first", "last", "red"), True, False])

    def test_against_all_that_sayings_read(self):
        rng = drawing(141)
        enough, needless = 0, 0
        for _ in range(25):
            rooms = drawn_shelves(rng)
            words = rooms[0].words
            for way in plain.TWELVE:
                depths = {word: is_explained(rooms, way, word, [w for w in words if w != word]) for word in words}
                self.assertEqual(needless_words(tuple(rooms), way), tuple(word for word in words if depths[word] is not None))
                needless += len(needless_words(rooms, way))
                for word in words:
                    paper = explain_word(rooms, word, way)
                    self.assertIsInstance(paper, Said if depths[word] is not None else Unsaid)
                    self.assertTrue(paper == say_book(Book.of_word(rooms, word), way))
                    self.assertIs(shows_said(Book.of_word(rooms, word), way, paper), True)
                    if paper:
                        self.assertEqual(paper.saying.depth, depths[word])
                        self.assertTrue(way_lets(way, paper.saying))
                        self.assertNotIn(word, paper.saying.words)
                        self.assertEqual(readings_in(rooms, paper.saying), tuple(room.things_of(word) for room in rooms))
                for size in range(4):
                    for names in itertools.combinations(words, size):
                        wanted = all(is_explained(rooms, way, word, list(names)) is not None for word in words if word not in names)
                        self.assertIs(is_enough(rooms, rng.sample(names, size), way), wanted)
                        enough += wanted and size < 3
        self.assertGreater(needless, 100)
        self.assertGreater(enough, 100)

    def test_put_in(self):
        """An explanation in the place of its word turns no reading, and stays a saying of the way."""
        rng = drawing(142)
        chained = 0
        for _ in range(30):
            rooms = drawn_shelves(rng)
            for way in plain.TWELVE:
                told = {word: explain_word(rooms, word, way) for word in rooms[0].words}
                for saying in plain.some_sayings(rng, rooms[0], way, 3, drawn_saying):
                    for word in needless_words(rooms, way):
                        made = put_in(saying, {word: told[word].saying})
                        self.assertEqual(readings_in(rooms, made), readings_in(rooms, saying))
                        self.assertTrue(way_lets(way, made))
                        self.assertNotIn(word, made.words)
                        self.assertLessEqual(made.depth, saying.depth + told[word].saying.depth)
                for one, other in itertools.permutations(needless_words(rooms, way), 2):
                    if other in told[one].saying.words and one not in told[other].saying.words:
                        chained += 1
                        made = put_in(put_in(of_word(one), {one: told[one].saying}), {other: told[other].saying})
                        self.assertFalse({one, other} & set(made.words))
                        self.assertEqual(readings_in(rooms, made), readings_in(rooms, of_word(one)))
        self.assertGreater(chained, 5)

    def test_each_room_and_not_in_all(self):
        ball = Room(["p", "q"], {"ball": ["p"], "cube": ["q"], "mine": ["p"]}, {})
        cube = Room(["p", "q"], {"ball": ["p"], "cube": ["q"], "mine": ["q"]}, {})
        for way in plain.TWELVE:
            self.assertIn("mine", needless_words([ball], way))
            self.assertIn("mine", needless_words([cube], way))
            self.assertNotIn("mine", needless_words([ball, cube], way))
            self.assertFalse(explain_word([ball, cube], "mine", way))

    def test_facts(self):
        rng = drawing(143)
        for _ in range(25):
            rooms = drawn_shelves(rng)
            words = rooms[0].words
            needless = {way: set(needless_words(rooms, way)) for way in plain.TWELVE}
            for way in plain.TWELVE:
                self.assertTrue(is_enough(rooms, list(words), way))
                for more in plain.TWELVE:
                    if is_way_below(way, more):
                        self.assertLessEqual(needless[way], needless[more])
                for word in words:
                    self.assertIs(word in needless[way], is_enough(rooms, [w for w in words if w != word], way))
        same = Room(["a", "b"], {"p": ["a"], "q": ["a"], "none": []}, {})
        for way in plain.TWELVE:
            self.assertEqual(needless_words([same], way), ("none", "p", "q"))
            self.assertIs(is_enough([same], [], way), False)
            self.assertIs(is_enough([same], ["q"], way), True)
            self.assertEqual(explain_word([same.cut(["none"])], "none", way).saying.depth, 0)

    def test_no_words(self):
        bare = Room(["a"], {}, {})
        self.assertEqual([needless_words([bare], "plain"), is_enough([bare], (), "not")], [(), True])


class Edges(Case):
    def test_order_of_errors(self):
        shelf = the_shelf()
        many = [Room([f"t{k}" for k in range(40)], {"w": ["t0"], "v": []}, {})] * 3
        calls = (explain_word, is_enough, lambda rooms, names, way: needless_words(rooms, way))
        for call in calls:
            for value in ODD_VALUES + (shelf, [shelf, None]):
                self.raises(("BadBook", "rooms"), call, value, value, value)
            self.raises(("Unlike", "stock"), call, [shelf] * 65 + [shelf.cut([])], 5, 5)
            self.raises(("TooMany", "rooms", 64), call, [shelf] * 65, 5, 5)
        for value in ODD_VALUES + ("left", "a"):
            self.raises(("NoWord", value), explain_word, many, value, value)
            self.raises(("NoWay", value), explain_word, many, "w", value)
            self.raises(("NoWay", value), is_enough, many, ["w", "v"], value)
            self.raises(("NoWay", value), needless_words, many, value)
            self.raises(("NoWay", value), needless_words, [Room(["a"], {}, {})], value)
            self.raises(("NoWord", value), is_enough, many, ["w", "w", value], value)
            if not isinstance(value, (list, tuple)):
                self.raises(("BadRoom", "names"), is_enough, many, value, value)
        self.raises(("Twice", "w"), is_enough, many, ["v", "w", "w", "v"], 5)
        self.raises(("TooMany", "places", 100), explain_word, many, "w", "not")
        self.raises(("TooMany", "places", 100), is_enough, many, ["w"], "not")
        self.raises(("TooMany", "places", 100), needless_words, many, "plain")
        self.assertIs(is_enough(many, ["w", "v"], "not"), True)
        self.assertEqual(needless_words([many[0].cut([])] * 3, "not"), ())

    def test_up_to_the_first_word(self):
        """Only what is asked can raise: words that are told, or behind one that is not explained, are not."""
        rooms = [fan({"l": range(many)}) for many in (35, 11, 13)]

        def wordy(**words):
            return [Room(room.things, {word: [words[word]] if words[word] else [] for word in words}, room.link_lists()) for room in rooms]

        for way in ("plain", "plain.back"):
            self.raises(("TooMany", "choices", 5000), explain_word, wordy(a="r"), "a", way)
            self.raises(("TooMany", "choices", 5000), needless_words, wordy(a="h1", b="r"), way)
            self.raises(("TooMany", "choices", 5000), is_enough, wordy(a=None, b="r"), [], way)
            self.assertIs(is_enough(wordy(a="r"), ["a"], way), True)
        self.assertIs(is_enough(wordy(a="h1", b="r"), [], "plain"), False)
        self.raises(("TooMany", "choices", 5000), is_enough, wordy(a="r", b="h1"), [], "plain")
        self.assertEqual(needless_words(wordy(a="h1"), "plain"), ())
        self.assertEqual(explain_word(wordy(a="h1", b="h1"), "a", "plain").saying, of_word("b"))

    def test_soon_enough(self):
        start = time.time()
        rng = drawing(144)
        forty = [f"t{k}" for k in range(40)]
        flat = [Room(forty[:33], {f"w{k}": rng.sample(forty[:33], 12) for k in range(60)},
                     {f"l{k}": [(t, u) for t in forty[:12] for u in rng.sample(forty[12:33], 3)] for k in range(8)}) for _ in range(3)]
        for way in ("plain", "many", "full.back"):
            self.told(needless_words, flat, way)
            self.told(is_enough, flat, flat[0].words[:50], way)
        self.assertLess(time.time() - start, 60)
