import time

from sayable.books import Book
from sayable.check_compared import shows_compared
from sayable.compared import Compared, Cut, around_compared, class_sayings, say_compared
from sayable.papers import Denial, Paper
from sayable.reads import readings_in
from sayable.rooms import Room
from sayable.said import least_depth
from sayable.sayings import above_of, any_thing, at_least, every_of, no_thing, of_word, some_of, top_of
from sayable.stable import stable_classes
from tests import plain, plain_compare
from tests.helpers import Case, ODD_VALUES, drawing, drawn_room
from tests.test_said import drawn_book
from tests.test_stable import FOUR, drawn_scaled, two_rooms


def first_book():
    return Book(two_rooms(), [["a"], ["a", "b"]])


def drawn_meant(rng, rooms, way):
    """Meant places that are classes put together, or any."""
    if rng.random() < 0.5:
        return drawn_book(rng, rooms)
    held = [place for group in stable_classes(rooms, way) if rng.random() < 0.5 for place in group]
    return Book(rooms, [[t for k, t in held if k == index] for index in range(len(rooms))])


def places_read(rooms, saying):
    return [(index, thing) for index, crowd in enumerate(readings_in(rooms, saying)) for thing in crowd]


def is_let(way, saying):
    kinds = plain.kinds_let(way) + ["top", "above"]
    return all(kind in kinds for kind in saying.kinds) and (way.endswith(".back") or not saying.is_back)


class Comparing(Case):
    def test_papers(self):
        said, cut = Compared(saying=of_word("w")), Cut([[[0, "a"], [0, "b"]]], other=[0, "b"], one=(0, "a"))
        self.assertEqual((said.word, said.parts, bool(said)), ("compared", (said.saying,), True))
        self.assertEqual((cut.word, cut.parts, bool(cut)), ("cut", ((((0, "a"), (0, "b")),), (0, "a"), (0, "b")), False))
        self.assertEqual((cut.parting, cut.one, cut.other), cut.parts)
        self.assertTrue(cut == Cut((((0, "a"), (0, "b")),), (0, "a"), (0, "b")))
        self.assertFalse(said == Paper("compared", of_word("w")) or cut == Denial("cut", *cut.parts))
        self.assertIsInstance(cut, Denial)
        self.assertNotIsInstance(said, Denial)

    def test_examples(self):
        rooms, first = two_rooms(), first_book()
        found = say_compared(first, "not")
        self.assertEqual([bool(found), readings_in(rooms, found.saying), around_compared(Book(rooms, [["a"], []]), "not") == first],
                         [True, (("a",), ("a", "b")), True])
        self.assertEqual(say_compared(Book(rooms, [["a"], ["a"]]), "not").parts[1:], ((0, "a"), (1, "b")))

    def test_said_and_cut(self):
        rng = drawing(211)
        cuts = 0
        for _ in range(60):
            rooms = drawn_scaled(rng)
            for way in FOUR:
                crowds = plain_compare.crowds_compared(rooms, way)
                classes = stable_classes(rooms, way)
                for _ in range(2):
                    book = drawn_meant(rng, rooms, way)
                    paper, meant = say_compared(book, way), frozenset(book.meant_places())
                    self.assertIsInstance(paper, Compared if meant in crowds else Cut)
                    self.assertIs(shows_compared(book, way, paper), True)
                    self.assertEqual(say_compared(Book(tuple(rooms), book.meant), way), paper)
                    around = min((crowd for crowd in crowds if crowd >= meant), key=len)
                    self.assertEqual(frozenset(around_compared(book, way).meant_places()), around)
                    self.assertEqual(around_compared(book, way).rooms, tuple(rooms))
                    if paper:
                        self.assertEqual(readings_in(rooms, paper.saying), book.meant)
                        self.assertTrue(is_let(way, paper.saying))
                        continue
                    cuts += 1
                    self.assertEqual(paper.parting, classes)
                    group = next(group for group in classes if 0 < len(meant & set(group)) < len(group))
                    self.assertEqual(paper.one, next(place for place in group if place in meant))
                    self.assertEqual(paper.other, next(place for place in group if place not in meant))
        self.assertGreater(cuts, 60)

    def test_class_sayings(self):
        rng = drawing(212)
        for _ in range(60):
            rooms = drawn_scaled(rng, 9)
            for way in FOUR:
                sayings = class_sayings(rooms, way)
                self.assertIsInstance(sayings, tuple)
                self.assertTrue(all(is_let(way, saying) for saying in sayings))
                self.assertEqual([places_read(rooms, saying) for saying in sayings], [list(group) for group in stable_classes(rooms, way)])
                self.assertEqual(class_sayings(list(rooms), way), sayings)

    def test_nothing_and_all(self):
        rng = drawing(213)
        for _ in range(15):
            rooms = drawn_scaled(rng, 9)
            for way in FOUR:
                for meant in ([[]] * len(rooms), [list(room) for room in rooms]):
                    book = Book(rooms, meant)
                    self.assertEqual(readings_in(rooms, say_compared(book, way).saying), book.meant)
                    self.assertTrue(around_compared(book, way) == book)

    def test_without_scales_what_is_said(self):
        rng = drawing(214)
        for _ in range(30):
            rooms = [room.cut(scales=[]) for room in drawn_scaled(rng, 9)]
            for way in FOUR:
                book = drawn_meant(rng, rooms, way)
                self.assertIs(bool(say_compared(book, way)), least_depth(book, way) is not None)

    def test_one_thing_more(self):
        """What is lesser than x leaves it above; what is not lesser leaves it not above; others turn nothing."""
        rng = drawing(215)
        for _ in range(60):
            room = drawn_room(rng, 5, 1, 0, 1)
            for has_word, number in ((True, rng.randint(-3, 3)), (False, rng.randint(-3, 3)), (True, None)):
                things = [*room.things, "z"]
                scale = {**room.scale_dicts()["s0"], **({} if number is None else {"z": number})}
                more = Room(things, {"w0": [*room.things_of("w0"), *["z"] * has_word]}, {}, {"s0": scale})
                for x in room:
                    was, now = [x in places for places in (plain.reading(room, above_of("s0", "w0")), plain.reading(more, above_of("s0", "w0")))]
                    own = room.number_of("s0", x)
                    if not has_word or number is None:
                        self.assertEqual(was, now)
                    elif own is not None and number < own:
                        self.assertLessEqual(was, now)
                    elif own is not None:
                        self.assertLessEqual(now, was)

    def test_errors(self):
        rooms, book = two_rooms(), first_book()
        wide = Room([f"t{k}" for k in range(34)], {}, {}, {"size": {}})
        large = Book([wide] * 3, [[]] * 3)
        for value in ODD_VALUES + (rooms, (tuple(rooms), ())):
            self.raises(("BadBook", "book"), say_compared, value, value)
            self.raises(("BadBook", "book"), around_compared, value, value)
            self.raises(("BadBook", "book"), shows_compared, value, value, value)
            self.raises(("BadBook", "rooms"), class_sayings, value if value != rooms else [], value)
        for value in ODD_VALUES + tuple(way for way in plain.TWELVE if way not in FOUR):
            self.raises(("NoWay", value), say_compared, large, value)
            self.raises(("NoWay", value), around_compared, large, value)
            self.raises(("NoWay", value), shows_compared, large, value, value)
            self.raises(("NoWay", value), class_sayings, [wide] * 3, value)
        self.raises(("Unlike", "stock"), class_sayings, [rooms[0], rooms[0].cut(scales=[])] * 40, "no")
        self.raises(("TooMany", "rooms", 64), class_sayings, rooms * 33, "no")
        for call in (say_compared, around_compared):
            self.raises(("TooMany", "places", 100), call, large, "full")
        self.raises(("TooMany", "places", 100), class_sayings, [wide] * 3, "full")
        more = Book([wide, wide, wide.kept(wide.things[:33])], [[]] * 3)
        for call in (say_compared, around_compared):
            self.raises(("TooMany", "places", 100), call, more, "full")
        hundred = Book([wide, wide, wide.kept(wide.things[:32])], [wide.things, wide.things, wide.things[:32]])
        self.assertIs(bool(say_compared(hundred, "not")), True)
        self.assertIs(shows_compared(hundred, "not", Compared(any_thing())), True)
        self.assertIs(shows_compared(Book(large.rooms, [wide.things] * 3), "not", Compared(any_thing())), False)

    def test_soon_enough(self):
        start = time.time()
        rng = drawing(216)
        things = [f"t{k}" for k in range(33)]
        rooms = [Room(things, {f"w{k}": rng.sample(things, 20) for k in range(60)},
                      {f"l{k}": [(t, u) for t in things[:15] for u in rng.sample(things[15:], 5)] for k in range(8)},
                      {f"s{k}": {t: rng.randint(-9, 9) for t in things} for k in range(8)}) for _ in range(3)]
        ladders = [Room(things, {}, {}, {f"s{k}": {t: at for at, t in enumerate(things)} for k in range(8)}) for _ in range(3)]
        for some in (rooms, ladders):
            for way in FOUR:
                self.assertEqual([places_read(some, saying) for saying in class_sayings(some, way)], [list(g) for g in stable_classes(some, way)])
                for book in (drawn_meant(rng, some, way) for _ in range(3)):
                    self.assertTrue(shows_compared(book, way, say_compared(book, way)))
        self.assertLess(time.time() - start, 30)


class CheckCompared(Case):
    def bent(self, rng, paper, book):
        """The parts of a Cut with something left out, put in, doubled, moved or exchanged."""
        groups, one, other = [list(group) for group in paper.parting], paper.one, paper.other
        places = book.places()
        turn = rng.randrange(9)
        at = rng.randrange(len(groups))
        if turn == 0:
            groups[at].pop()
        elif turn == 1:
            groups[at].append(rng.choice(places))
        elif turn == 2:
            groups[at].append(groups.pop(rng.randrange(len(groups))).pop())
        elif turn == 3 and len(groups) > 1:
            groups[0].extend(groups.pop())
        elif turn == 4:
            groups.append([groups[at].pop()])
        elif turn == 5:
            groups.append([])
        elif turn == 6:
            one = rng.choice(places)
        elif turn == 7:
            other = rng.choice(places)
        groups = [rng.sample(group, len(group)) for group in rng.sample(groups, len(groups))]
        return Cut(groups, one, other)

    def plain_shows(self, book, way, value):
        told = [place for group in value.parting for place in group]
        if sorted(told) != sorted(book.places()) or not all(value.parting) or not plain_compare.is_stable(book.rooms, way, value.parting):
            return False
        return value.one in book.meant_places() and value.other in book.other_places() and any(
            value.one in group and value.other in group for group in value.parting)

    def test_examples(self):
        first = first_book()
        self.assertEqual([shows_compared(first, "not", Compared(top_of("size", any_thing()))),
                          shows_compared(first, "full", Cut([[[0, "a"], [0, "b"]], [[1, "a"], [1, "b"]]], [0, "a"], [0, "b"]))], [True, False])

    def test_bent_cuts(self):
        rng = drawing(221)
        told = {True: 0, False: 0}
        for _ in range(120):
            rooms = drawn_scaled(rng, 8)
            way = rng.choice(FOUR)
            book = drawn_meant(rng, rooms, way)
            paper = say_compared(book, way)
            if paper:
                continue
            for _ in range(12):
                value = self.bent(rng, paper, book)
                wanted = self.plain_shows(book, way, value)
                self.assertIs(shows_compared(book, way, value), wanted)
                told[wanted] += 1
        self.assertGreater(min(told.values()), 60)

    def test_finer_partings(self):
        """Any stable parting does, if only its class has both."""
        rng = drawing(222)
        many = 0
        for _ in range(60):
            rooms = drawn_scaled(rng, 5)
            way = rng.choice(FOUR)
            book = drawn_meant(rng, rooms, way)
            for told in plain_compare.partings(book.places()):
                for group in told:
                    for one, other in ((group[0], group[-1]), (group[-1], group[0])):
                        value = Cut(told, one, other)
                        wanted = self.plain_shows(book, way, value)
                        self.assertIs(shows_compared(book, way, value), wanted)
                        many += wanted
        self.assertGreater(many, 20)

    def test_sayings(self):
        book = first_book()
        for saying, wanted in ((top_of("size", any_thing()), True), (~~top_of("size", any_thing()), True), (any_thing(), False),
                               (top_of("size", any_thing()) | above_of("size", "w"), False), (top_of("s", any_thing()), False),
                               (top_of("size", any_thing()) | some_of("l", any_thing()), False)):
            for way in FOUR:
                self.assertIs(shows_compared(book, way, Compared(saying)), wanted)
        room = Room(["a", "b"], {"w": ["a"]}, {"l": [("a", "b")]}, {"s": {}})
        linked = Book([room], [["b"]])
        self.assertEqual([shows_compared(linked, way, Compared(some_of("l", any_thing(), True))) for way in FOUR], [False, False, True, True])
        both = ~any_thing() | every_of("l", no_thing()) | at_least(2, "l", any_thing())
        self.assertEqual([shows_compared(linked, way, Compared(both)) for way in FOUR], [False, True, False, True])
        for value in ODD_VALUES:
            self.assertIs(shows_compared(book, "not", Compared(value)), False)

    def test_any_values(self):
        book, meant = Book(two_rooms(), [["a"], ["a"]]), [[[0, "a"], [1, "a"], [1, "b"]], [[0, "b"]]]
        self.assertIs(shows_compared(book, "not", Cut(meant, [0, "a"], [1, "b"])), True)
        self.assertIs(shows_compared(book, "not", Denial("cut", meant, [0, "a"], [1, "b"])), False)
        for value in ODD_VALUES + ((2, "a"), (False, "a"), (0, "c"), "0a"):
            for way in FOUR:
                self.assertIs(shows_compared(book, way, value), False)
                self.assertIs(shows_compared(book, way, Cut(value, [0, "a"], [1, "b"])), False)
                self.assertIs(shows_compared(book, way, Cut([*meant, value], [0, "a"], [1, "b"])), False)
                self.assertIs(shows_compared(book, way, Cut([*meant[:1], [[0, "b"], value]], [0, "a"], [1, "b"])), False)
                self.assertIs(shows_compared(book, way, Cut(meant, value, [1, "b"])), False)
                self.assertIs(shows_compared(book, way, Cut(meant, [0, "a"], value)), False)
        truths = [[[False, "a"], [True, "a"], [True, "b"]], [[False, "b"]]]
        self.assertIs(shows_compared(book, "not", Cut(truths, [0, "a"], [1, "b"])), False)
        self.assertIs(shows_compared(book, "not", Cut(meant, [False, "a"], [1, "b"])), False)
        self.assertIs(shows_compared(book, "not", Cut(meant, [0, "a"], [True, "b"])), False)
