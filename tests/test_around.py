from sayable.around import greatest_inside, least_around
from sayable.books import Book
from sayable.likeness import likeness_pairs
from sayable.plainlike import is_like_point
from sayable.rooms import Room
from sayable.said import least_depth
from sayable.ways import is_way_below
from tests import plain
from tests.helpers import Case, ODD_VALUES, drawing
from tests.test_likeness import the_row
from tests.test_plainlike import drawn_rooms
from tests.test_points import fan
from tests.test_said import drawn_book


class CrowdsThatAreSaid(Case):
    def test_examples(self):
        row = the_row()
        last = Book([row], [["c"]])
        self.assertEqual([least_around(last, "plain").meant, least_around(last, "plain.back").meant,
                          greatest_inside(Book([row], [["a", "c"]]), "either").meant], [(("a", "b", "c"),), (("c",),), (("a",),)])

    def test_against_all_rows_that_are_said(self):
        rng = drawing(131)
        between = 0
        for _ in range(60):
            rooms = drawn_rooms(rng)
            for way in plain.TWELVE:
                book = drawn_book(rng, rooms)
                meant = frozenset(book.meant_places())
                said = plain.crowd_levels(rooms, way)[-1]
                around = frozenset.intersection(*[crowd for crowd in said if crowd >= meant])
                found = least_around(book, way)
                self.assertIsInstance(found, Book)
                self.assertEqual(found.rooms, book.rooms)
                self.assertEqual(frozenset(found.meant_places()), around)
                self.assertIs(found == book, least_depth(book, way) is not None)
                self.assertIsNotNone(least_depth(found, way))
                between += around not in (meant, frozenset(book.places()))
                if way.startswith("plain"):
                    continue
                inside = frozenset.union(*[crowd for crowd in said if crowd <= meant])
                found = greatest_inside(book, way)
                self.assertEqual(found.rooms, book.rooms)
                self.assertEqual(frozenset(found.meant_places()), inside)
                self.assertIs(found == book, least_depth(book, way) is not None)
                self.assertIsNotNone(least_depth(found, way))
        self.assertGreater(between, 50)

    def test_against_likeness(self):
        rng = drawing(132)
        for _ in range(30):
            rooms = drawn_rooms(rng)
            book = drawn_book(rng, rooms)
            meant = book.meant_places()
            for way in plain.TEN:
                pairs = likeness_pairs(rooms, way)
                self.assertEqual(set(least_around(book, way).meant_places()), {other for one, other in pairs if one in meant})
                self.assertEqual(set(greatest_inside(book, way).meant_places()),
                                 {one for one in book.places() if all(other in meant for this, other in pairs if this == one)})
            for back in (False, True):
                wanted = {place for place in book.places() if meant and is_like_point(rooms, meant, place, back)}
                self.assertEqual(set(least_around(book, "plain.back" if back else "plain").meant_places()), wanted)

    def test_ways_below(self):
        rng = drawing(133)
        for _ in range(30):
            book = drawn_book(rng, drawn_rooms(rng))
            around = {way: set(least_around(book, way).meant_places()) for way in plain.TWELVE}
            inside = {way: set(greatest_inside(book, way).meant_places()) for way in plain.TEN}
            for way in plain.TWELVE:
                for more in plain.TWELVE:
                    if is_way_below(way, more):
                        self.assertLessEqual(around[more], around[way])
                        self.assertTrue(way not in inside or inside[way] <= inside[more])

    def test_nothing_and_all(self):
        row = the_row()
        none, whole = Book([row, row], [[], []]), Book([row, row], [["a", "b", "c"]] * 2)
        for way in plain.TWELVE:
            self.assertTrue(least_around(none, way) == none)
            self.assertTrue(least_around(whole, way) == whole)
        for way in plain.TEN:
            self.assertTrue(greatest_inside(none, way) == none)
            self.assertTrue(greatest_inside(whole, way) == whole)

    def test_errors(self):
        row = the_row()
        many = Book([Room([f"t{k}" for k in range(40)], {}, {})] * 3, [["t0"], [], []])
        for call in (least_around, greatest_inside):
            for value in ODD_VALUES + (row, [row]):
                self.raises(("BadBook", "book"), call, value, value)
                self.raises(("NoWay", value), call, many, value)
            self.raises(("TooMany", "places", 100), call, many, "full")
        choices = Book([fan({"l": range(35)}), fan({"l": range(11)}), fan({"l": range(13)})], [["r"]] * 3)
        points = Book([fan({"l": range(10)}), fan({"l": range(20)}), fan({"l": range(25)})], [["r"]] * 3)
        for way in ("plain", "plain.back"):
            self.raises(("NoWay", way), greatest_inside, many, way)
            self.raises(("TooMany", "places", 100), least_around, many, way)
            self.raises(("TooMany", "choices", 5000), least_around, choices, way)
            self.raises(("TooMany", "points", 5000), least_around, points, way)
            self.assertEqual(least_around(choices.changed(meant=[[]] * 3), way).meant, ((), (), ()))
        self.assertEqual(len(greatest_inside(choices, "either").meant_places()), 3)
