import time

from sayable.beside import rooms_beside
from sayable.books import Book
from sayable.check_said import shows_said
from sayable.loose import Loose, fillings
from sayable.papers import Denial, Paper
from sayable.reads import reading_of, readings_in
from sayable.rooms import Room
from sayable.said import Said, Unsaid, least_depth, said_ways, say_book
from sayable.ways import all_ways, is_way_below, way_lets
from tests import plain
from tests.helpers import Case, ODD_VALUES, drawing, drawn_room
from tests.test_likeness import the_row
from tests.test_plainlike import drawn_rooms
from tests.test_points import fan


def drawn_book(rng, rooms):
    return Book(rooms, [[thing for thing in room if rng.random() < 0.5] for room in rooms])


class Papers(Case):
    def test_said(self):
        by_place = Said("s", [[0, "a"]], [0, "b"], [[[[[0, "a"]], [0, "b"]]]])
        by_name = Said(stages=((((( 0, "a"),), (0, "b")),),), place=(0, "b"), point=((0, "a"),), saying="s")
        self.assertTrue(by_place == by_name)
        self.assertEqual((by_place.word, by_place.parts), ("said", ("s", ((0, "a"),), (0, "b"), (((((0, "a"),), (0, "b")),),))))
        self.assertEqual((by_place.saying, by_place.point, by_place.place, by_place.stages), by_place.parts)
        self.assertIs(bool(by_place), True)
        self.assertIsInstance(by_place, Paper)
        self.assertNotIsInstance(by_place, Denial)
        self.assertFalse(by_place == Said("s", None, None, ()))
        self.assertFalse(by_place == Paper("said", *by_place.parts))

    def test_unsaid(self):
        paper = Unsaid([[0, "a"]], place=[0, "b"], pairs=[])
        self.assertEqual((paper.word, paper.parts), ("unsaid", (((0, "a"),), (0, "b"), ())))
        self.assertEqual((paper.point, paper.place, paper.pairs), paper.parts)
        self.assertIs(bool(paper), False)
        self.assertIsInstance(paper, Denial)
        self.assertTrue(paper == Unsaid(((0, "a"),), (0, "b"), []))
        self.assertFalse(paper == Denial("unsaid", *paper.parts))
        self.assertFalse(Unsaid(1, 2, 3) == Said(None, 1, 2, 3))
        self.assertEqual(Said({"b": [1], "a": 2}, 0, 0, 0).saying, (("a", 2), ("b", (1,))))


class SaidBooks(Case):
    def test_examples(self):
        row = the_row()
        first, last = Book([row], [["a"]]), Book([row], [["c"]])
        said = say_book(first, "plain")
        self.assertEqual([bool(said), said.saying.depth, reading_of(row, said.saying), said.point, said.place in first.other_places(),
                          len(said.stages)], [True, 1, ("a",), ((0, "a"),), True, 1])
        self.assertEqual([bool(say_book(last, "either")), least_depth(last, "plain"), least_depth(last, "every"),
                          least_depth(last, "plain.back")], [False, None, 1, 1])
        self.assertEqual(said_ways(last), ("every", "not", "full", "plain.back", "either.back", "every.back", "many.back", "not.back",
                                           "full.back"))

    def check_paper(self, book, way, least):
        paper = say_book(book, way)
        self.assertIsInstance(paper, Unsaid if least is None else Said)
        self.assertEqual(least_depth(book, way), least)
        self.assertTrue(plain.shows_said(book, way, paper), (way, book.meant, [str(room) for room in book.rooms]))
        self.assertIs(shows_said(book, way, paper), True)
        self.assertEqual(say_book(Book(list(book.rooms), [list(reversed(crowd)) for crowd in book.meant]), way), paper)
        if least is None:
            return
        self.assertTrue(way_lets(way, paper.saying))
        self.assertEqual(paper.saying.depth, least)
        self.assertEqual(readings_in(book.rooms, paper.saying), book.meant)
        self.assertEqual(len(paper.stages), least)
        if least == 0:
            self.assertEqual(paper.parts[1:], (None, None, ()))

    def test_against_all_that_sayings_read(self):
        rng = drawing(121)
        depths = {}
        for _ in range(60):
            rooms = drawn_rooms(rng)
            books = [drawn_book(rng, rooms) for _ in range(2)]
            for way in plain.TWELVE:
                levels = plain.crowd_levels(rooms, way)
                some = rng.choice(sorted(levels[-1], key=sorted))
                book_said = Book(rooms, [[t for k, t in some if k == at] for at in range(len(rooms))])
                for book in books + [book_said]:
                    least = plain.depth_said(levels, book.meant_places())
                    depths[least] = depths.get(least, 0) + 1
                    self.check_paper(book, way, least)
        self.assertGreater(depths[None], 100)
        self.assertGreater(depths[1], 100)
        self.assertGreater(depths[2], 20)

    def test_deep(self):
        rng = drawing(122)
        things = [f"t{k}" for k in range(8)]
        chain = Room(things, {"red": ["t7"]}, {"l": list(zip(things, things[1:]))})
        wanted = {"plain": 7, "either": 7, "every": 7, "many": 7, "not": 6, "full": 6, "every.back": 1, "not.back": 1, "full.back": 1}
        for way in wanted:
            self.check_paper(Book([chain], [["t0"]]), way, wanted[way])
        for way in ("plain.back", "either.back", "many.back"):
            self.check_paper(Book([chain], [["t0"]]), way, 7)
        for _ in range(15):
            room = Room(things, {"w": rng.sample(things, 2)}, {"l": [(t, u) for t in things for u in rng.sample(things, 2)]})
            for way in plain.TEN:
                book = drawn_book(rng, [room])
                self.check_paper(book, way, least_depth(book, way))

    def test_nothing_and_all(self):
        rng = drawing(123)
        for _ in range(20):
            rooms = drawn_rooms(rng)
            for way in plain.TWELVE:
                none, whole = Book(rooms, [[]] * len(rooms)), Book(rooms, [list(room) for room in rooms])
                for book in (none, whole):
                    self.check_paper(book, way, 0)
                self.assertEqual(readings_in(rooms, say_book(none, way).saying), tuple(() for _ in rooms))
            self.assertEqual(said_ways(none), all_ways())

    def test_more_let_and_fewer_rooms(self):
        rng = drawing(124)
        for _ in range(40):
            rooms = drawn_rooms(rng)
            book = drawn_book(rng, rooms)
            least = {way: least_depth(book, way) for way in plain.TWELVE}
            self.assertEqual(said_ways(book), tuple(way for way in plain.TWELVE if least[way] is not None))
            for way in plain.TWELVE:
                for more in plain.TWELVE:
                    if is_way_below(way, more) and least[way] is not None:
                        self.assertLessEqual(least[more], least[way])
                if len(rooms) > 1 and least[way] is not None:
                    for left_out in range(len(rooms)):
                        fewer = Book(rooms[:left_out] + rooms[left_out + 1:], book.meant[:left_out] + book.meant[left_out + 1:])
                        self.assertLessEqual(least_depth(fewer, way), least[way])

    def test_rooms_that_bar_together(self):
        one, two = Room(["a", "b"], {"red": ["a"]}, {}), Room(["a", "b"], {"red": ["b"]}, {})
        self.assertEqual(said_ways(Book([one], [["a"]])), all_ways())
        self.assertEqual(said_ways(Book([two], [["a"]])), ("not", "full", "not.back", "full.back"))
        self.assertEqual(said_ways(Book([one, two], [["a"], ["a"]])), ())
        self.assertEqual(say_book(Book([one, two], [["a"], ["a"]]), "not").parts[:2], ((((0, "a"),), (1, "b"))))

    def test_rooms_beside_one_another(self):
        """What a saying reads side by side it reads in each room: so the depths are the same."""
        rng = drawing(125)
        for _ in range(20):
            rooms = [drawn_room(rng, 2, 1, 1) for _ in range(2)]
            book = drawn_book(rng, rooms)
            beside = Book([rooms_beside(*rooms)], [[f"r{k}.{thing}" for k, thing in book.meant_places()]])
            for way in plain.TWELVE:
                self.assertEqual(least_depth(book, way), least_depth(beside, way))

    def test_fillings(self):
        rng = drawing(126)
        for _ in range(15):
            room = drawn_room(rng, 3, 2, 1)
            facts = [("word", "w0", thing) for thing in room] + [("link", "l0", one, other) for one in room for other in room]
            loose = Loose(room, rng.sample(facts, min(2, len(facts))))
            rooms = list(fillings(loose))
            crowd = [thing for thing in room if rng.random() < 0.5]
            book = Book(rooms, [crowd] * len(rooms))
            for way in plain.TWELVE:
                least = least_depth(book, way)
                if len(book.places()) < 7:
                    self.assertEqual(least, plain.depth_said(plain.crowd_levels(rooms, way), book.meant_places()))
                if least is not None:
                    self.assertTrue(all(least_depth(Book([filled], [crowd]), way) <= least for filled in rooms))


class Edges(Case):
    functions = (say_book, least_depth, lambda book, way: said_ways(book))

    def test_order_of_errors(self):
        row = the_row()
        many = Book([Room([f"t{k}" for k in range(40)], {}, {})] * 3, [["t0"], [], []])
        for call in self.functions:
            for value in ODD_VALUES + (row, [row], Book, "book", ((row,), (("a",),))):
                self.raises(("BadBook", "book"), call, value, value)
            self.raises(("TooMany", "places", 100), call, many, "not")
        for call in self.functions[:2]:
            for value in ODD_VALUES + ("Plain", "plain.", "back", ["plain"]):
                self.raises(("NoWay", value), call, many, value)
            for way in plain.TWELVE:
                self.raises(("TooMany", "places", 100), call, many, way)
        hundred = Book([Room([f"t{k}" for k in range(25)], {}, {})] * 4, [["t0"], [], [], []])
        self.assertEqual(said_ways(hundred), ())
        self.assertEqual(said_ways(Book([row] * 33, [["b"]] * 33)), all_ways())
        self.raises(("TooMany", "places", 100), least_depth, Book([row] * 34, [["b"]] * 34), "plain")

    def test_too_many_points(self):
        choices = Book([fan({"l": range(35)}), fan({"l": range(11)}), fan({"l": range(13)})], [["r"]] * 3)
        points = Book([fan({"l": range(10)}), fan({"l": range(20)}), fan({"l": range(25)})], [["r"]] * 3)
        enough = Book([fan({"l": range(many)}) for many in (16, 16, 19)], [["r"]] * 3)
        for call in self.functions[:2]:
            for way in plain.TEN:
                self.assertIsNone(self.told(call, choices, way))
            for way in ("plain", "plain.back"):
                self.raises(("TooMany", "choices", 5000), call, choices, way)
                self.raises(("TooMany", "points", 5000), call, points, way)
            self.assertIsNone(self.told(call, enough, "plain"))
            # Whatever depth is enough: here a word is, and there thing.
            named = [Room(room.things, {"root": ["r"]}, room.link_lists()) for room in choices.rooms]
            self.raises(("TooMany", "choices", 5000), call, choices.changed(named), "plain")
            things = [f"t{k}" for k in range(13)]
            ring = Room(things, {}, {"l": [(t, u) for t, u in zip(things, things[1:] + things[:1])] + [(t, t) for t in things]})
            self.raises(("TooMany", "choices", 5000), call, Book([ring], [things]), "plain")
            self.assertIsNone(self.told(call, Book([ring], [[]]), "plain"))
            self.assertIsNone(self.told(call, choices.changed(meant=[[], [], []]), "plain"))
            self.assertIsNone(self.told(call, choices.changed(meant=[["r"], ["r"], []]), "plain"))
        self.raises(("TooMany", "choices", 5000), said_ways, choices)
        self.raises(("TooMany", "points", 5000), said_ways, points)
        back = choices.changed(meant=[["h0"], ["h0"], ["h0"]])
        self.raises(("TooMany", "choices", 5000), said_ways, back)
        self.assertIsNone(least_depth(back, "plain"))

    def test_soon_enough(self):
        start = time.time()
        rng = drawing(127)
        things = [f"t{k}" for k in range(16)]
        for density in (0.1, 0.3):
            room = Room(things, {"w": things[:2]}, {f"l{k}": [(t, u) for t in things for u in things if rng.random() < density] for k in range(3)})
            for book in (Book([room], [things[3:5]]), Book([room.kept(things[:8]), room.kept(things[8:])], [things[:2], []])):
                for way in plain.TEN:
                    self.assertTrue(shows_said(book, way, say_book(book, way)))
        six = things[:6]
        for _ in range(10):
            room = Room(six, {"w": six[:2]}, {f"l{k}": [(t, u) for t in six for u in six if rng.random() < 0.4] for k in range(3)})
            for book in (Book([room], [six[1:4]]), Book([room], [six[:1]])):
                for way in ("plain", "plain.back"):
                    self.assertTrue(shows_said(book, way, say_book(book, way)))
                said_ways(book)
        forty = [f"t{k}" for k in range(40)]
        flat = [Room(forty[:33], {f"w{k}": rng.sample(forty[:33], 12) for k in range(60)},
                     {f"l{k}": [(t, u) for t in forty[:12] for u in rng.sample(forty[12:33], 3)] for k in range(8)}) for _ in range(3)]
        for way in plain.TWELVE:
            book = Book(flat, [["t0", "t1"] if way in plain.TEN else ["t0"], ["t1"], []])
            self.assertTrue(shows_said(book, way, say_book(book, way)))
        self.assertLess(time.time() - start, 60)
