from sayable.books import Book
from sayable.rooms import Room
from tests import plain
from tests.helpers import Case, ODD_VALUES, drawing, drawn_room
from tests.test_likeness import the_row


class Books(Case):
    def test_examples(self):
        row = the_row()
        book = Book([row, row], [["c", "a"], []])
        self.assertEqual([book.meant, book.meant_places(), len(book.other_places())], [(("a", "c"), ()), ((0, "a"), (0, "c")), 4])
        self.assertIs(Book.of_word([row], "red") == Book([row.cut(words=["cup"])], [["b"]]), True)
        self.raises(("NoThing", "d"), Book, [row], [["a", "d", "a"]])

    def test_attributes_and_places(self):
        rng = drawing(111)
        for _ in range(40):
            rooms = [drawn_room(rng, 4, 1, 1) for _ in range(rng.randint(1, 3))]
            meant = [[thing for thing in room if rng.random() < 0.5] for room in rooms]
            told = [rng.sample(crowd, len(crowd)) for crowd in meant]
            book = Book(rooms, told)
            self.assertEqual(book.rooms, tuple(rooms))
            self.assertEqual(book.meant, tuple(tuple(crowd) for crowd in meant))
            self.assertEqual(book.places(), tuple(plain.places(rooms)))
            self.assertEqual(book.meant_places(), tuple(p for p in plain.places(rooms) if p[1] in meant[p[0]]))
            self.assertEqual(book.other_places(), tuple(p for p in plain.places(rooms) if p[1] not in meant[p[0]]))
            self.assertTrue(book == Book(tuple(rooms), tuple(tuple(crowd) for crowd in told)))
            rooms.append(rooms[0])
            told.append([])
            self.assertEqual(len(book.rooms), len(book.meant))

    def test_equality(self):
        row = the_row()
        other = Room.read(str(row))
        self.assertTrue(Book([row], [["a"]]) == Book([other], (("a",),)))
        self.assertFalse(Book([row], [["a"]]) == Book([row], [["b"]]))
        self.assertFalse(Book([row], [["a"]]) == Book([row, row], [["a"], []]))
        self.assertFalse(Book([row], [["a"]]) == Book([row.renamed({"a": "a", "b": "b", "c": "d"})], [["a"]]))
        self.assertFalse(Book([row, row.kept(["a"])], [["a"], ["a"]]) == Book([row.kept(["a"]), row], [["a"], ["a"]]))
        for value in ODD_VALUES + (row, ((row,), (("a",),))):
            self.assertIs(Book([row], [["a"]]) == value, False)
            self.assertIs(Book([row], [["a"]]) != value, True)

    def test_of_word(self):
        rng = drawing(112)
        for _ in range(20):
            rooms = [drawn_room(rng, 4, 3, 2, 2) for _ in range(rng.randint(1, 3))]
            book = Book.of_word(tuple(rooms), "w1")
            self.assertEqual(book.rooms, tuple(room.cut(words=["w0", "w2"]) for room in rooms))
            self.assertEqual(book.meant, tuple(room.things_of("w1") for room in rooms))
            self.assertEqual(book.rooms[0].scales, ("s0", "s1"))
        row = the_row()
        for value in ODD_VALUES + ("left", "a", "re"):
            self.raises(("NoWord", value), Book.of_word, [row], value)
        for value in ODD_VALUES + (row, [row, None]):
            self.raises(("BadBook", "rooms"), Book.of_word, value, value)
        self.raises(("Unlike", "stock"), Book.of_word, [row, row.cut([])], "no")
        self.raises(("TooMany", "rooms", 64), Book.of_word, [row] * 65, "no")
        self.assertEqual(len(Book.of_word([row] * 64, "red").rooms), 64)

    def test_changed(self):
        row = the_row()
        book = Book([row, row], [["a"], []])
        less = row.kept(["a", "b"])
        self.assertTrue(book.changed() == book)
        self.assertEqual(book.changed(meant=[[], ["c", "b"]]).meant, ((), ("b", "c")))
        self.assertEqual(book.changed([less, row]).rooms, (less, row))
        self.assertTrue(book.changed([row], [["b"]]) == Book([row], [["b"]]))
        self.raises(("BadBook", "meant"), book.changed, [row])
        self.raises(("BadBook", "rooms"), book.changed, [])
        self.raises(("BadBook", "rooms"), book.changed, 0, 0)
        self.raises(("BadBook", "meant"), book.changed, None, [])
        self.raises(("NoThing", "a"), book.changed, [row.kept(["b"]), row])
        self.raises(("Unlike", "stock"), book.changed, [row, row.cut([])])
        self.assertEqual(book.meant, (("a",), ()))

    def test_cut(self):
        row = Room(["a", "b"], {"p": ["a"], "q": []}, {"l": [("a", "b")], "m": []}, {"s": {"a": 1}})
        book = Book([row, row.kept(["b"])], [["a"], ["b"]])
        cut = book.cut(["q"], [])
        self.assertTrue(cut == Book([row.cut(["q"], []), row.kept(["b"]).cut(["q"], [])], [["a"], ["b"]]))
        self.assertEqual(cut.rooms[0].stock, (("q",), (), ("s",)))
        self.assertTrue(book.cut() == book)
        self.assertEqual(book.cut(links=("m",)).rooms[1].stock, (("p", "q"), ("m",), ("s",)))
        for value in ODD_VALUES:
            if value is not None and not isinstance(value, (list, tuple)):
                self.raises(("BadRoom", "words"), book.cut, value, value)
                self.raises(("BadRoom", "links"), book.cut, None, value)
            self.raises(("NoWord", value), book.cut, ["p", value, "p"], ["no"])
            self.raises(("NoLink", value), book.cut, ["p"], ["l", value])
        self.raises(("Twice", "p"), book.cut, ["p", "p"], 5)
        self.raises(("Twice", "l"), book.cut, ["p"], ["l", "l"])

    def test_errors(self):
        row = the_row()
        for value in ODD_VALUES + (row, [row, None], {0: row}, "row"):
            self.raises(("BadBook", "rooms"), Book, value, value)
        self.raises(("Unlike", "stock"), Book, [row] * 65 + [row.cut([])], None)
        self.raises(("TooMany", "rooms", 64), Book, [row] * 65, None)
        for value in ODD_VALUES + ([["a"], []], [["a"], None], ["abc"], [{"a": 1}], [{"a"}], {0: ["a"]}, ["a"], "a"):
            if not (isinstance(value, (list, tuple)) and len(value) == 1 and isinstance(value[0], (list, tuple))):
                self.raises(("BadBook", "meant"), Book, [row], value)
        self.raises(("BadBook", "meant"), Book, [row, row], [["z"], None])
        for value in ODD_VALUES + ("z", "A", "cup"):
            self.raises(("NoThing", value), Book, [row, row], [["c", "a"], ["a", value, "a"]])
        self.raises(("Twice", "a"), Book, [row, row], [["c", "a", "a", "z"], ["z"]])
        self.raises(("NoThing", "z"), Book, [row, row], [["c", "z", "c"], ["a", "a"]])
        self.raises(("Twice", "a"), Book, [row], [["a", "a", "z"]])
        self.assertEqual(len(Book([row] * 64, [[]] * 64).rooms), 64)
