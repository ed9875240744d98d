import time

from sayable.books import Book
from sayable.cheapest import cheapest_words
from sayable.priced import Priced, left_by, usable_in
from sayable.rooms import Room
from sayable.sayings import Saying, above_of, any_thing, of_word, some_of, top_of
from sayable.soonest import soonest_order, waits_in
from tests import plain_compare
from tests.helpers import Case, ODD_VALUES, drawing, drawn_room, drawn_saying
from tests.test_said import drawn_book


def the_four():
    return Room(["a", "b", "c", "d"], {"red": ["a", "b"], "big": ["a", "c"], "round": ["a"]}, {})


def the_asked():
    return Priced([(of_word("red"), 2), (of_word("big"), 2), (of_word("round"), 5)])


def drawn_list(rng, room, many=6, most=9):
    return Priced([(drawn_saying(rng, room, 6), rng.randint(0, most)) for _ in range(rng.randint(1, many))])


def drawn_asked(rng, most=6, many=3):
    """A priced list and a book; in every other one the meant things are what some sayings leave."""
    rooms = [drawn_room(rng, most, 3, 1, 1) for _ in range(rng.randint(1, many))]
    priced = drawn_list(rng, rooms[0])
    book = drawn_book(rng, rooms)
    if rng.random() < 0.7:
        picked = [k for k in range(len(priced)) if rng.random() < 0.5]
        book = book.changed(meant=left_by(book, priced, picked))
    return book, priced


class PricedLists(Case):
    def test_examples(self):
        four, asked = the_four(), the_asked()
        wanted = Book([four], [["a"]])
        self.assertEqual([usable_in(wanted, asked), usable_in(Book([four], [["b"]]), asked), left_by(wanted, asked, [0]),
                          left_by(wanted, asked, [1, 0]), left_by(wanted, asked, [])],
                         [(0, 1, 2), (0,), (("a", "b"),), (("a",),), (("a", "b", "c", "d"),)])
        self.assertEqual([asked.price_of([2, 0]), of_word("big") in asked, len(asked.joined(asked)),
                          asked.with_price(2, 3).joined(Priced.alike(4, any_thing())).prices], [7, True, 6, (2, 2, 3, 4)])
        self.raises(("BadPriced", "picked"), asked.price_of, [0, 0])

    def test_what_it_keeps(self):
        rows = [[of_word("red"), 2], (top_of("s", any_thing()), 0), (of_word("red"), 1000000)]
        priced = Priced(rows)
        rows[0][1] = 9
        rows.pop()
        self.assertEqual(priced.rows, ((of_word("red"), 2), (top_of("s", any_thing()), 0), (of_word("red"), 1000000)))
        self.assertEqual((priced.sayings, priced.prices), (tuple(s for s, _ in priced.rows), (2, 0, 1000000)))
        self.assertEqual([type(row) for row in priced.rows], [tuple] * 3)
        self.assertEqual((len(priced), list(priced), Priced.MOST, priced.MOST), (3, list(priced.rows), 24, 24))
        self.assertIs(of_word("red") in priced, True)
        self.assertIs(Saying([("word", "red")]) in priced, True)
        for value in ODD_VALUES + (of_word("big"), "word red", (of_word("red"), 2), ("word", "red"), priced):
            self.assertIs(value in priced, False)

    def test_equality(self):
        asked = the_asked()
        self.assertTrue(asked == Priced([list(row) for row in asked.rows]))
        self.assertFalse(asked == Priced(list(reversed(asked.rows))))
        self.assertFalse(asked == asked.with_price(0, 3))
        self.assertFalse(asked == Priced(asked.rows[:2]))
        for value in ODD_VALUES + (asked.rows, asked.sayings):
            self.assertIs(asked == value, False)
            self.assertIs(asked != value, True)

    def test_made_lists(self):
        red, big = of_word("red"), of_word("big")
        self.assertEqual(Priced.alike(7, red, big, red).rows, ((red, 7), (big, 7), (red, 7)))
        asked = the_asked()
        self.assertEqual(asked.joined(Priced.alike(0, any_thing())).rows, (*asked.rows, (any_thing(), 0)))
        self.assertEqual(asked.with_price(1, 1000000).prices, (2, 1000000, 5))
        self.assertEqual(asked.with_price(1, 1000000).sayings, asked.sayings)
        self.assertEqual(asked.prices, (2, 2, 5))
        self.assertEqual([asked.price_of(picked) for picked in ([], (), [1], (2, 1, 0))], [0, 0, 2, 9])

    def test_wrong_rows(self):
        red = of_word("red")
        for value in ODD_VALUES + (red, (red, 2), [red, 2], [(red,)], [(red, 2, 3)], [(2, red)], {red.parts: 2}, [((red,), 2)],
                                   [(red, -1)], [(red, 1000001)], [(red, True)], [(red, False)], [(red, "2")], [(red, None)], [(red, 2.0)],
                                   [("word red", 2)], the_asked()):
            self.raises(("BadPriced", "rows"), Priced, value)
            if isinstance(value, list) and value:
                self.raises(("BadPriced", "rows"), Priced, [(red, 2)] * 30 + value)
        self.assertEqual(len(Priced([(red, 2)] * 24)), 24)
        self.raises(("TooMany", "sayings", 24), Priced, [(red, 2)] * 25)
        self.raises(("TooMany", "sayings", 24), Priced, tuple([[red, 2]] * 300))

    def test_wrong_arguments(self):
        red, asked = of_word("red"), the_asked()
        for value in ODD_VALUES + (1000001, "2", 2.0):
            self.raises(("BadNumbers", "price"), Priced.alike, value)
            self.raises(("BadNumbers", "price"), Priced.alike, value, 2)
            self.raises(("BadNumbers", "price"), asked.with_price, 0, value)
            self.raises(("BadNumbers", "index"), asked.with_price, value, value)
        self.raises(("BadNumbers", "index"), asked.with_price, 3, -1)
        self.raises(("BadPriced", "sayings"), Priced.alike, 3)
        for value in ODD_VALUES + ("word red", [red], asked):
            self.raises(("BadPriced", "sayings"), Priced.alike, 3, value)
            self.raises(("BadPriced", "sayings"), Priced.alike, 3, *[red] * 30, value)
            self.raises(("BadPriced", "other"), asked.joined, value if value is not asked else asked.rows)
        self.raises(("TooMany", "sayings", 24), Priced.alike, 3, *[red] * 25)
        self.assertEqual(len(Priced.alike(3, *[red] * 24)), 24)
        twelve = Priced([(red, 2)] * 12)
        self.assertEqual(len(twelve.joined(twelve)), 24)
        self.raises(("TooMany", "sayings", 24), twelve.joined(twelve).joined, Priced([(red, 2)]))
        for value in ODD_VALUES + ([3], [-1], [0, 0], [True], [0, False], ["0"], "0", {0: 1}, 0, [[0]], [0.0], [10 ** 30]):
            if value not in ([], ()):
                self.raises(("BadPriced", "picked"), asked.price_of, value)


class Usable(Case):
    def test_against_plain_readings(self):
        rng = drawing(231)
        for _ in range(120):
            book, priced = drawn_asked(rng)
            self.assertEqual(usable_in(book, priced), tuple(plain_compare.usable(book, priced)))
            picked = rng.sample(range(len(priced)), rng.randint(0, len(priced)))
            self.assertEqual(left_by(book, priced, picked), plain_compare.left_by(book, priced, picked))
            self.assertEqual(left_by(book, priced, tuple(picked)), left_by(book, priced, sorted(picked)))

    def test_errors(self):
        four, asked = the_four(), the_asked()
        wanted = Book([four], [["a"]])
        calls = (usable_in, lambda book, priced: left_by(book, priced, [0, 0]), cheapest_words, lambda book, priced: waits_in(book, priced, [0, 0]),
                 lambda book, priced: soonest_order(book, priced, [0, 0]))
        for call in calls:
            for value in ODD_VALUES + (four, [four], asked):
                self.raises(("BadBook", "book"), call, value, value)
            for value in ODD_VALUES + (four, wanted, asked.rows, asked.sayings):
                self.raises(("BadPriced", "priced"), call, wanted, value)
        for value in ODD_VALUES + ([3], [-1], [0, 0], [True], ["0"], 0):
            if value not in ([], ()):
                self.raises(("BadPriced", "picked"), left_by, wanted, Priced([(of_word("none"), 2)] * 3), value)

    def test_names_that_the_stock_lacks(self):
        room = Room(["a"], {"w": ["a"]}, {"l": []}, {"s": {"a": 1}})
        book = Book([room, room], [["a"], ["a"]])
        good = of_word("w") & some_of("l", top_of("s", any_thing())) & above_of("s", "w")
        for saying, wanted in ((of_word("v"), ("NoWord", "v")), (some_of("k", of_word("v")), ("NoWord", "v")), (some_of("k", of_word("w")), ("NoLink", "k")),
                               (top_of("r", some_of("k", good)), ("NoLink", "k")), (top_of("r", good), ("NoScale", "r")),
                               (above_of("r", "v"), ("NoScale", "r")), (above_of("s", "v"), ("NoWord", "v")), (of_word("it"), ("NoWord", "it"))):
            for rows in ([good, saying], [saying], [good, saying, of_word("u")], [good, good & saying]):
                priced = Priced([(one, 1) for one in rows])
                self.raises(wanted, usable_in, book, priced)
                self.raises(wanted, left_by, book, priced, [])
                self.raises(wanted, cheapest_words, book, priced)
                self.raises(wanted, waits_in, book, priced, [])
                self.raises(wanted, soonest_order, book, priced, [0])

    def test_soon_enough(self):
        start = time.time()
        rng = drawing(232)
        things = [f"t{k}" for k in range(40)]
        rooms = [Room(things, {f"w{k}": rng.sample(things, 30) for k in range(24)},
                      {f"l{k}": [(t, u) for t in things[:20] for u in rng.sample(things[20:], 9)] for k in range(8)},
                      {f"s{k}": {t: rng.randint(-9, 9) for t in things} for k in range(8)}) for _ in range(64)]
        long = of_word("w0")
        while len(long) < 190:
            long = ~some_of(f"l{len(long) % 8}", long, len(long) % 2 == 0) | top_of(f"s{len(long) % 8}", of_word(f"w{len(long) % 24}"))
        priced = Priced([(of_word(f"w{k}") | long, k) for k in range(24)])
        book = Book(rooms, [[]] * 64)
        left = left_by(book, priced, list(range(24)))
        self.assertEqual(usable_in(book.changed(meant=left), priced), tuple(range(24)))
        self.assertLess(time.time() - start, 30)
