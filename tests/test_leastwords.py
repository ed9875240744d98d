import itertools
import time

from sayable.check_said import shows_said
from sayable.check_words import shows_stock
from sayable.books import Book
from sayable.explained import is_enough
from sayable.leastwords import LeastStock, fewest_words
from sayable.papers import Denial, Paper
from sayable.reads import readings_in
from sayable.rooms import Room
from sayable.said import Unsaid, say_book
from sayable.sayings import Saying, any_thing, either_of, of_word, some_of
from sayable.ways import is_way_below, way_lets
from tests import plain
from tests.helpers import Case, ODD_VALUES, drawing
from tests.test_explained import drawn_shelves, is_explained, the_shelf
from tests.test_points import fan


def all_sets(words):
    """All sets of words in order: fewer first, then as tuples are."""
    return sorted((names for size in range(len(words) + 1) for names in itertools.combinations(sorted(words), size)),
                  key=lambda names: (len(names), names))


def word_book(rooms, word, names):
    return Book([room.cut(words=names) for room in rooms], [room.things_of(word) for room in rooms])


class FewestWords(Case):
    def test_paper(self):
        paper = LeastStock(lacking=[], told=[["w", any_thing()]], words=[])
        self.assertEqual((paper.word, paper.parts), ("leaststock", ((), (("w", any_thing()),), ())))
        self.assertEqual((paper.words, paper.told, paper.lacking, bool(paper)), (*paper.parts, True))
        self.assertTrue(paper == LeastStock((), [("w", any_thing())], ()))
        self.assertFalse(paper == Paper("leaststock", *paper.parts))
        self.assertNotIsInstance(paper, Denial)

    def test_examples(self):
        shelf = the_shelf()
        least = fewest_words([shelf], "plain")
        self.assertEqual([least.words, [word for word, saying in least.told], [row[:2] for row in least.lacking],
                          fewest_words([shelf], "every").words], [("last",), ["first", "red"], [((), "last")], ()])
        ball, cube = (Room(["p", "q"], {"ball": ["p"], "cube": ["q"], "mine": [mine]}, {}) for mine in "pq")
        self.assertEqual([fewest_words([ball], "not").words, fewest_words([ball, cube], "not").words,
                          fewest_words([ball, cube], "either").words], [("ball",), ("ball", "mine"), ("ball", "cube", "mine")])
        self.assertEqual([shows_stock([shelf], "plain", least), shows_stock([shelf], "every", least)], [True, False])

    def test_against_all_sets_in_order(self):
        rng = drawing(201)
        sizes = {}
        for _ in range(25):
            rooms = drawn_shelves(rng)
            stock = rooms[0].words
            found = {}
            for way in plain.TWELVE:
                first = next(names for names in all_sets(stock) if all(
                    is_explained(rooms, way, word, list(names)) is not None for word in stock if word not in names))
                paper = fewest_words(tuple(rooms), way)
                found[way] = len(first)
                sizes[len(first)] = sizes.get(len(first), 0) + 1
                self.assertIsInstance(paper, LeastStock)
                self.assertEqual(paper.words, first)
                self.assertTrue(is_enough(rooms, first, way))
                self.check_told(rooms, way, paper)
                self.assertIs(shows_stock(rooms, way, paper), True)
                self.assertTrue(fewest_words(rooms, way) == paper)
            for way in plain.TWELVE:
                for more in plain.TWELVE:
                    self.assertTrue(not is_way_below(way, more) or found[more] <= found[way])
        self.assertEqual(sorted(sizes)[:3], [0, 1, 2])

    def check_told(self, rooms, way, paper):
        stock, words = rooms[0].words, paper.words
        self.assertEqual([row[0] for row in paper.told], [word for word in stock if word not in words])
        for word, saying in paper.told:
            self.assertTrue(way_lets(way, saying))
            self.assertLessEqual(set(saying.words), set(words))
            self.assertEqual(saying.depth, is_explained(rooms, way, word, list(words)))
            self.assertEqual(readings_in(rooms, saying), tuple(room.things_of(word) for room in rooms))
        fewer = [names for names in all_sets(stock) if len(names) == len(words) - 1]
        self.assertEqual([row[0] for row in paper.lacking], fewer)
        for names, word, unsaid in paper.lacking:
            lacking = [w for w in stock if w not in names and is_explained(rooms, way, w, list(names)) is None]
            self.assertEqual(word, lacking[0])
            self.assertIsInstance(unsaid, Unsaid)
            self.assertIs(shows_said(word_book(rooms, word, names), way, unsaid), True)

    def test_a_word_less_and_a_room_less(self):
        rng = drawing(202)
        for _ in range(25):
            rooms = drawn_shelves(rng)
            for way in plain.TWELVE:
                many = len(fewest_words(rooms, way).words)
                self.assertLessEqual(len(fewest_words(rooms[:1], way).words), many)
                self.assertLessEqual(len(fewest_words(rooms, way).words), len(rooms[0].words))

    def test_no_words_and_many(self):
        bare = Room(["a"], {}, {"l": []})
        self.assertEqual(fewest_words([bare], "plain").parts, ((), (), ()))
        eight = Room([f"t{k}" for k in range(8)], {f"w{k}": [f"t{k}"] for k in range(8)}, {})
        self.assertEqual(fewest_words([eight], "either").words, eight.words)
        self.assertEqual(len(fewest_words([eight], "either").lacking), 8)
        self.assertEqual(fewest_words([eight], "not").words, eight.words[:7])
        self.assertEqual(len(fewest_words([eight], "not").lacking), 28)
        for way in ("either", "not", "plain.back"):
            self.assertIs(shows_stock([eight], way, fewest_words([eight], way)), True)

    def test_order_of_errors(self):
        shelf = the_shelf()
        nine = Room(["a"], {f"w{k}": [] for k in range(9)}, {})
        for value in ODD_VALUES + (shelf, [shelf, None]):
            self.raises(("BadBook", "rooms"), fewest_words, value, value)
            self.raises(("NoWay", value), fewest_words, [nine], value)
        self.raises(("Unlike", "stock"), fewest_words, [shelf] * 65 + [nine], 5)
        self.raises(("TooMany", "rooms", 64), fewest_words, [shelf] * 65, 5)
        wide = Room([f"t{k}" for k in range(40)], {"w": []}, {})
        for way in plain.TWELVE:
            self.raises(("TooMany", "words", 8), fewest_words, [nine], way)
            self.raises(("TooMany", "words", 8), fewest_words, [nine] * 64, way)
            self.raises(("TooMany", "places", 100), fewest_words, [wide] * 3, way)
            self.assertEqual(fewest_words([wide.cut([])] * 3, way).words, ())
            self.assertEqual(fewest_words([nine.cut(nine.words[:8])], way).words, ())

    def test_too_many_points(self):
        """Set by set, word by word: what is asked first raises."""
        def wordy(**words):
            return [Room(room.things, {w: [words[w]] if words[w] else [] for w in words}, room.link_lists())
                    for room in (fan({"l": range(many)}) for many in (35, 11, 13))]

        for way in ("plain", "plain.back"):
            self.raises(("TooMany", "choices", 5000), fewest_words, wordy(a="r"), way)
        self.assertEqual(fewest_words(wordy(a="h1"), "plain").words, ("a",))
        self.raises(("TooMany", "choices", 5000), fewest_words, wordy(a="h1", b="r"), "plain")
        self.assertEqual(fewest_words(wordy(a="r"), "either").words, ())

    def test_soon_enough(self):
        start = time.time()
        rng = drawing(203)
        things = [f"t{k}" for k in range(8)]
        room = Room(things, {f"w{k}": rng.sample(things, 3) for k in range(8)},
                    {f"l{k}": [(t, u) for t in things for u in things if rng.random() < 0.2] for k in range(3)})
        for way in plain.TWELVE:
            self.assertIs(shows_stock([room], way, fewest_words([room], way)), True)
        forty = [f"t{k}" for k in range(40)]
        flat = [Room(forty[:33], {f"w{k}": rng.sample(forty[:33], 12) for k in range(8)},
                     {f"l{k}": [(t, u) for t in forty[:12] for u in rng.sample(forty[12:33], 3)] for k in range(8)}) for _ in range(3)]
        for way in ("every", "many", "full.back"):
            self.assertIs(shows_stock(flat, way, fewest_words(flat, way)), True)
        self.assertLess(time.time() - start, 60)


class ShownStocks(Case):
    def test_any_enough_set(self):
        """It need not be the first one, nor need its sayings be of the least depths, nor the lacking words the first ones."""
        same = Room(["a", "b"], {"p": ["a"], "q": ["a"], "r": ["b"]}, {})
        paper = fewest_words([same], "either")
        self.assertEqual(paper.words, ("p", "r"))
        lacking = [(names, "r" if names != ("r",) else "q", None) for names, _, _ in paper.lacking]
        lacking = [(names, word, say_book(word_book([same], word, names), "either")) for names, word, _ in lacking]
        other = LeastStock(["q", "r"], [["p", either_of(of_word("q"), of_word("q"))]], [list(row) for row in lacking])
        self.assertIs(shows_stock([same], "either", other), True)
        self.assertIs(shows_stock((same,), "either", LeastStock(paper.words, paper.told, lacking)), True)
        self.assertIs(shows_stock([same], "plain", other), False)
        self.assertIs(shows_stock([same], "not", other), False)
        ring = Room(["a", "b"], {"p": ["a"], "q": ["b"]}, {"l": [("a", "b"), ("b", "a")]})
        deep = some_of("l", some_of("l", some_of("l", of_word("p"))))
        paper = fewest_words([ring], "plain")
        self.assertIs(shows_stock([ring], "plain", LeastStock(["p"], [["q", deep]], paper.lacking)), True)

    def test_bent_papers(self):
        shelf = the_shelf()
        least = fewest_words([shelf], "plain")
        (names, word, unsaid), = least.lacking
        (_, first), (_, red) = least.told
        good = [["last"], [["first", first], ["red", red]], [[[], "last", unsaid]]]
        self.assertIs(shows_stock([shelf], "plain", LeastStock(*good)), True)
        another = say_book(word_book([shelf], "red", []), "plain")
        for words in (["red"], [], ["last", "last"], ["last", "no"], ["first", "last"], ["last", "first"], "last", None, [None], ["lost"]):
            self.assertIs(shows_stock([shelf], "plain", LeastStock(words, *good[1:])), False)
        for told in ([good[1][0]], good[1] + [["last", of_word("last")]], good[1][::-1], [["first", red], ["red", first]], None, [],
                     [["first", of_word("first")], good[1][1]], [["first", str(first)], good[1][1]], [good[1][0], ["red", red, red]],
                     [good[1][0], ["red"]], [good[1][0], None], {"first": first, "red": red, "x": 1},
                     [["first", first & ~any_thing()], good[1][1]], [["first", first | some_of("right", red)], good[1][1]],
                     [["first", first | some_of("left", of_word("red"))], good[1][1]], [["red", red], ["red", red]]):
            self.assertIs(shows_stock([shelf], "plain", LeastStock(good[0], told, good[2])), False)
        self.assertIs(shows_stock([shelf], "plain", LeastStock(*good[:2], [[[], "red", another]])), True)
        for lacking in ([], None, good[2] * 2, [[[], "red", unsaid]], [[[], "last", another]], [[["red"], "last", unsaid]],
                        [[[], "no", unsaid]], [[[], None, unsaid]], [[[], "last", None]], [[[], "last"]], [[[], "last", unsaid, 1]], [None],
                        [[[], "last", first]], [[[], "last", Unsaid(unsaid.point, unsaid.place, [])]],
                        [[[], "last", Paper("unsaid", *unsaid.parts)]], [[[], "last", Denial("unsaid", *unsaid.parts)]]):
            self.assertIs(shows_stock([shelf], "plain", LeastStock(*good[:2], lacking)), False)
        self.assertEqual((names, word), ((), "last"))
        # The dict of a told row stands for its pairs, names ascending.
        self.assertIs(shows_stock([shelf], "plain", LeastStock(good[0], {"red": red, "first": first}, good[2])), True)

    def test_more_than_the_fewest(self):
        """Of a set that is enough, but not the least, some set of one word fewer is enough: so nothing shows it."""
        rng = drawing(204)
        for _ in range(10):
            rooms = drawn_shelves(rng)
            stock = rooms[0].words
            for way in ("plain", "either", "full.back"):
                least = fewest_words(rooms, way)
                for names in all_sets(stock):
                    told = [(word, say_book(word_book(rooms, word, names), way)) for word in stock if word not in names]
                    if all(paper for _, paper in told):
                        rows = []
                        for fewer in all_sets(stock):
                            if len(fewer) == len(names) - 1:
                                papers = [(w, say_book(word_book(rooms, w, fewer), way)) for w in stock if w not in fewer]
                                rows.append((fewer, *next(((w, p) for w, p in papers if not p), papers[0])))
                        value = LeastStock(names, [(word, paper.saying) for word, paper in told], rows)
                        self.assertIs(shows_stock(rooms, way, value), len(names) == len(least.words))

    def test_errors_and_odd_values(self):
        shelf = the_shelf()
        nine = Room(["a"], {f"w{k}": [] for k in range(9)}, {})
        wide = Room([f"t{k}" for k in range(40)], {"w": []}, {})
        none = LeastStock((), (), ())
        for value in ODD_VALUES + (shelf, [shelf, None]):
            self.raises(("BadBook", "rooms"), shows_stock, value, value, value)
            self.raises(("NoWay", value), shows_stock, [nine], value, value)
            self.assertIs(shows_stock([shelf], "plain", value), False)
            self.assertIs(shows_stock([shelf], "plain", LeastStock(value, value, value)), False)
        self.raises(("Unlike", "stock"), shows_stock, [shelf] * 65 + [nine], 5, 5)
        self.assertIs(shows_stock([shelf] * 65, 5, 5), False)
        self.assertIs(shows_stock([nine], "plain", LeastStock((), [(w, Saying([("nothing",)])) for w in nine.words], ())), False)
        eight = nine.cut(nine.words[:8])
        self.assertIs(shows_stock([eight], "plain", LeastStock((), [(w, Saying([("nothing",)])) for w in eight.words], ())), True)
        self.assertIs(shows_stock([wide] * 3, "plain", LeastStock((), [("w", Saying([("nothing",)]))], ())), False)
        self.assertIs(shows_stock([wide] * 2, "plain", LeastStock((), [("w", Saying([("nothing",)]))], ())), True)
        self.assertIs(shows_stock([wide.cut([])] * 3, "plain", none), True)
        self.assertIs(shows_stock([shelf], "plain", none), False)
        self.assertIs(shows_stock([wide.cut([])], "not", LeastStock((), (), [((), "w", None)])), False)

    def test_too_many_points_count_where_shows_said_is_asked(self):
        rooms = [Room(room.things, {"a": ["r"], "b": ["r"]}, room.link_lists()) for room in (fan({"l": range(many)}) for many in (35, 11, 13))]
        rooting = some_of("l", any_thing())
        self.raises(("TooMany", "choices", 5000), fewest_words, rooms, "plain")
        self.assertIs(shows_stock(rooms, "plain", LeastStock((), [("a", rooting), ("b", rooting)], ())), True)
        roots = [(k, "r") for k in range(3)]
        unsaid = Unsaid(roots, (0, "h0"), [(roots, (0, "h0"))])
        self.assertIs(shows_stock(rooms, "plain", LeastStock(["a"], [("b", of_word("a"))], [((), "a", unsaid)])), False)
        empty = [room.cut(["a"]) for room in rooms]
        none = [Room(room.things, {"a": []}, room.link_lists()) for room in empty]
        self.assertIs(shows_stock(none, "plain", LeastStock((), [("a", Saying([("nothing",)]))], ())), True)
        whole = [Room(room.things, {"a": list(room.things)}, room.link_lists()) for room in empty]
        self.assertIs(shows_stock(whole, "plain.back", LeastStock((), [("a", any_thing())], ())), True)
