import time

from sayable.books import Book
from sayable.papers import Denial
from sayable.putin import put_in
from sayable.reads import reading_of, readings_in
from sayable.rooms import Room
from sayable.said import Unsaid, least_depth, say_book
from sayable.sayings import above_of, any_thing, no_thing, of_word, some_of, top_of
from sayable.translations import Translation, Untold, translation_of
from sayable.ways import way_lets
from tests import plain, plain_talk
from tests.helpers import Case, ODD_VALUES, drawing, drawn_room, drawn_saying
from tests.test_tellers import NO_TELLERS, drawn_heard, drawn_teller, the_box

SMALL = ["thing", "nothing", "word", "both", "either", "not", "some", "every", "least", "top"]


def drawn_translation(rng, room, words=("w0", "w1", "w2", "w3")):
    return {word: drawn_saying(rng, room, 4, SMALL) for word in words if rng.random() < 0.6}


class Translations(Case):
    def test_examples(self):
        box = the_box()
        one, two = Translation({"red": ~of_word("blue")}), Translation({"blue": of_word("cold"), "big": of_word("red")})
        self.assertEqual([str(one.then(two).carried(of_word("red") & of_word("big"))), one.then(two).words, one.stands([box]),
                          two.then(one).saying_of("big") == ~of_word("blue")], ["word cold / not 0 / word red / both 1 2", ("big", "blue", "red"), True, True])
        self.assertEqual([reading_of(box, translation_of([box], ["blue", "red"], (["blue"], []), "not").saying_of("red")),
                          translation_of([box], ["red"], (["blue"], []), "either").name], [("p", "q"), "red"])

    def test_what_it_keeps(self):
        words = {"red": of_word("blue"), "b": top_of("s", any_thing())}
        translation = Translation(words)
        words["c"] = any_thing()
        self.assertEqual(translation.words, ("b", "red"))
        self.assertTrue(translation.saying_of("red") == of_word("blue"))
        self.assertEqual(Translation({}).words, ())
        for value in ODD_VALUES + ("c", "Red", of_word("red")):
            self.raises(("NoWord", value), translation.saying_of, value)

    def test_equality(self):
        one = Translation({"a": of_word("b"), "c": any_thing()})
        self.assertTrue(one == Translation({"c": any_thing(), "a": of_word("b")}) and Translation({}) == Translation({}))
        for other in (Translation({"a": of_word("b")}), Translation({"a": of_word("b"), "c": no_thing()}), Translation({"a": of_word("b"), "d": any_thing()})):
            self.assertFalse(one == other)
        for value in ODD_VALUES + ({"a": of_word("b"), "c": any_thing()},):
            self.assertIs(one == value, False)

    def test_wrong_words(self):
        for value in ODD_VALUES + ([("a", any_thing())], {"A": any_thing()}, {"a": "thing"}, {"a": any_thing(), "b": None}, {1: any_thing()},
                                   {"a..b": any_thing()}, Translation({})):
            if value != {}:
                self.raises(("BadTranslation", "words"), Translation, value)

    def test_carried(self):
        rng = drawing(351)
        for _ in range(100):
            room = drawn_room(rng, 3, 4, 1, 1)
            told = drawn_translation(rng, room)
            translation, saying = Translation(told), drawn_saying(rng, room, 6, SMALL)
            self.assertTrue(translation.carried(saying) == put_in(saying, told))
            other = Translation(drawn_translation(rng, room, ("w0", "w2", "w4", "w5")))
            both = translation.then(other)
            self.assertEqual(both.words, tuple(sorted({*translation.words, *other.words})))
            self.assertTrue(both.carried(saying) == other.carried(translation.carried(saying)))
            third = Translation(drawn_translation(rng, room))
            self.assertTrue(both.then(third) == translation.then(other.then(third)))
            self.assertTrue(translation.then(Translation({})) == translation and Translation({}).then(translation) == translation)

    def test_wrong_arguments(self):
        translation = Translation({"a": above_of("s", "b")})
        for value in ODD_VALUES + ("word a", translation):
            self.raises(("BadSaying", "saying"), translation.carried, value)
        for value in ODD_VALUES + (of_word("a"), {"a": of_word("b")}):
            self.raises(("BadTranslation", "other"), translation.then, value)
            self.raises(("BadBook", "rooms"), translation.stands, value)
        self.raises(("Unlike", "above"), translation.carried, above_of("s", "a"))
        self.assertTrue(translation.carried(above_of("s", "b")) == above_of("s", "b"))
        self.raises(("Unlike", "above"), translation.then, Translation({"b": any_thing()}))
        self.assertEqual(translation.then(Translation({"a": any_thing()})).words, ("a",))

    def test_stands(self):
        rng = drawing(352)
        told = {True: 0, False: 0}
        for _ in range(200):
            rooms = [drawn_room(rng, 3, 3, 1, 1) for _ in range(rng.randint(1, 2))]
            words = {word: rng.choice([of_word(word), ~~of_word(word), drawn_saying(rng, rooms[0], 4), of_word(word) & any_thing()])
                     for word in rooms[0].words if rng.random() < 0.6}
            wanted = all(plain.reading(room, words[word]) == room.things_of(word) for word in words for room in rooms)
            translation = Translation(words)
            self.assertIs(translation.stands(rooms), wanted)
            told[wanted] += 1
            if wanted:
                saying = drawn_saying(rng, rooms[0], 6, SMALL)
                self.assertEqual(readings_in(rooms, translation.carried(saying)), readings_in(rooms, saying))
        self.assertGreater(min(told.values()), 40)
        self.assertIs(Translation({}).stands([the_box()]), True)

    def test_stands_errors(self):
        box = the_box()
        self.raises(("Unlike", "stock"), Translation({"z": any_thing()}).stands, [box, box.cut([])] * 40)
        self.raises(("TooMany", "rooms", 64), Translation({"z": any_thing()}).stands, [box] * 65)
        self.raises(("NoWord", "big.x"), Translation({"z": any_thing(), "big": of_word("gone"), "big.x": any_thing()}).stands, [box])
        self.raises(("NoWord", "gone"), Translation({"red": of_word("gone"), "big": no_thing()}).stands, [box])
        self.raises(("NoLink", "l"), Translation({"red": any_thing(), "big": some_of("l", any_thing())}).stands, [box])
        self.raises(("NoScale", "s"), Translation({"blue": no_thing(), "red": of_word("red"), "small": above_of("s", "gone")}).stands, [box])


class TranslationOf(Case):
    def test_papers(self):
        paper = Untold("red", [[0, "a"]], pairs=[], place=[0, "b"])
        self.assertEqual((paper.word, paper.parts, bool(paper)), ("untold", ("red", ((0, "a"),), (0, "b"), ()), False))
        self.assertEqual((paper.name, paper.point, paper.place, paper.pairs), paper.parts)
        self.assertIsInstance(paper, Denial)
        self.assertFalse(paper == Denial("untold", *paper.parts))
        self.assertTrue(paper == Untold(*paper.parts))

    def test_in_each_way(self):
        rng = drawing(361)
        untold = 0
        for _ in range(40):
            book, tellers = drawn_heard(rng, 5)
            rooms, teller = book.rooms, tellers[0]
            names = rng.sample(rooms[0].words, rng.randint(0, 3))
            cut = plain_talk.cut(rooms, teller)
            for way in plain.TWELVE:
                levels = plain.crowd_levels(cut, way)
                meant = {name: [(k, t) for k, room in enumerate(rooms) for t in room.things_of(name)] for name in names}
                depths = {name: plain.depth_said(levels, meant[name]) for name in names}
                found = translation_of(rooms, names, teller, way)
                self.assertTrue(translation_of(list(rooms), tuple(names), list(map(tuple, teller)), way) == found)
                lacking = [name for name in names if depths[name] is None]
                if lacking:
                    untold += 1
                    self.assertEqual(found.name, lacking[0])
                    self.assertIsInstance(found, Untold)
                    said = Book(cut, [room.things_of(found.name) for room in rooms])
                    self.assertTrue(plain.shows_said(said, way, Unsaid(found.point, found.place, found.pairs)))
                    continue
                self.assertEqual(found.words, tuple(sorted(names)))
                self.assertIs(found.stands(rooms), True)
                for name in names:
                    saying = found.saying_of(name)
                    self.assertEqual(saying.depth, depths[name])
                    self.assertTrue(way_lets(way, saying) and set(saying.words) <= set(teller[0]) and set(saying.links) <= set(teller[1]))
        self.assertGreater(untold, 50)

    def test_parts_of_the_unsaid(self):
        """The Untold has what say_book tells of the things of the word."""
        rng = drawing(362)
        for _ in range(30):
            book, (teller, *_) = drawn_heard(rng)
            for way in plain.TWELVE:
                found = translation_of(book.rooms, book.rooms[0].words, teller, way)
                if isinstance(found, Untold):
                    said = Book(plain_talk.cut(book.rooms, teller), [room.things_of(found.name) for room in book.rooms])
                    self.assertIsNone(least_depth(said, way))
                    self.assertEqual(say_book(said, way).parts, found.parts[1:])

    def test_errors(self):
        box = the_box()
        wide = [Room([f"t{k}" for k in range(34)], {"w": []}, {"l": []})] * 3
        for value in ODD_VALUES + (box,):
            self.raises(("BadBook", "rooms"), translation_of, value, value, value, value)
        self.raises(("Unlike", "stock"), translation_of, [box, box.cut([])], 0, 0, 0)
        self.raises(("TooMany", "rooms", 64), translation_of, [box] * 65, 0, 0, 0)
        for value in ODD_VALUES + ("red", {"red": 1}):
            if not isinstance(value, (list, tuple)):
                self.raises(("BadTranslation", "names"), translation_of, [box], value, value, value)
        for names, wanted in ((["red", "gone", "red"], ("NoWord", "gone")), (["red", "big", "red", "big"], ("Twice", "red")), ([["red"]], ("NoWord", ["red"])),
                              ([None], ("NoWord", None))):
            self.raises(wanted, translation_of, [box], names, 0, 0)
        for value in NO_TELLERS:
            self.raises(("BadTeller", "teller"), translation_of, [box], ["red"], value, value)
        for teller, wanted in (((["red", "gone", "red"], ["l"]), ("NoWord", "gone")), ((["red", "red"], ["l"]), ("Twice", "red")), ((["red"], ["l"]), ("NoLink", "l"))):
            self.raises(wanted, translation_of, [box], ["red"], teller, 0)
        self.raises(("Twice", "l"), translation_of, wide, ["w"], ([], ["l", "l"]), 0)
        for value in ODD_VALUES + ("Plain", "back"):
            self.raises(("NoWay", value), translation_of, wide, ["w"], ([], []), value)
        for way in plain.TWELVE:
            self.raises(("TooMany", "places", 100), translation_of, wide, ["w"], ([], []), way)
            self.assertTrue(translation_of(wide, [], ([], []), way) == Translation({}))

    def test_word_by_word(self):
        """The first word that is not his ends it, ahead of what would be too many."""
        things = [f"t{k}" for k in range(13)]
        ring = Room(things, {"all": things, "one": things[:1]},
                    {"l": [(t, u) for t, u in zip(things, things[1:] + things[:1])] + [(t, t) for t in things]})
        self.raises(("TooMany", "choices", 5000), translation_of, [ring], ["all", "one"], ([], ["l"]), "plain")
        self.assertEqual(translation_of([ring], ["one", "all"], ([], ["l"]), "plain").name, "one")

    def test_soon_enough(self):
        start = time.time()
        rng = drawing(363)
        things = [f"t{k}" for k in range(33)]
        flat = [Room(things, {f"w{k}": rng.sample(things, 12) for k in range(60)}, {f"l{k}": [(t, rng.choice(things[16:])) for t in things[:16]] for k in range(8)})
                for _ in range(3)]
        for way in plain.TEN:
            translation_of(flat, flat[0].words, (flat[0].words[10:], flat[0].links), way)
            found = translation_of(flat, flat[0].words[:30], (flat[0].words, []), way)
            self.assertIs(found.stands(flat), True)
        self.assertLess(time.time() - start, 60)
