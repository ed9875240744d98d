import time

from sayable.check_ties import shows_tie
from sayable.likeness import is_like
from sayable.papers import Denial, Paper
from sayable.rooms import Room
from sayable.said import say_book
from sayable.books import Book
from sayable.tied import pairs_in, tie_pairs, with_tie
from sayable.tiegroups import are_parted, tie_classes
from sayable.ties import Tie, link_pairs, over_tie, same_pairs, word_pairs
from sayable.tiesaid import TieSaid, TieUnsaid, class_ties, pairs_around, say_pairs
from tests import plain
from tests.helpers import Case, ODD_VALUES, drawing, drawn_room
from tests.test_ties import drawn_tie


def rooms_two():
    return [Room(["x", "p", "q"], {}, {"to": [("x", "p"), ("x", "q")]}), Room(["x", "p"], {}, {"to": [("x", "p")]})]


def the_even():
    return Room(["x", "y"], {}, {"to": []})


def drawn_ones(rng, words=(0, 1), most=4):
    held, led = rng.choice(words), rng.choice((1, 1, 2))
    many, ties = rng.choice((1, 2, 2, 3)), rng.choice((0.2, 0.4))
    rooms = [drawn_room(rng, most if many == 1 else 3, held, led, ties=ties) for _ in range(many)]
    turn = rng.random()
    if turn < 0.4:
        # The same room once more, its things in another order: so there is what no tie parts.
        return [rooms[0], *[rooms[0].kept(rooms[0].things).renamed({t: f"u{t}" for t in rooms[0]}) for _ in rooms]]
    if turn < 0.7:
        return [Room(room.things, room.word_lists(), {link: [] if link == "l0" else room.pairs_of(link) for link in room.links}) for room in rooms]
    return rooms


def drawn_pairs(rng, rooms, often=0.4):
    """Drawn pairs for each room; now and then some classes put together."""
    if rng.random() < 0.5:
        return [[(x, y) for x in room for y in room if rng.random() < often] for room in rooms]
    held = [couple for group in tie_classes(rooms) if rng.random() < 0.5 for couple in group]
    return [[(x, y) for i, x, y in rng.sample(held, len(held)) if i == k] for k in range(len(rooms))]


def couples_of(pairs):
    return {(index, x, y) for index, row in enumerate(pairs) for x, y in row}


class TieClasses(Case):
    def test_examples(self):
        even, arrow = the_even(), Room(["x", "y"], {}, {"to": [("x", "y")]})
        self.assertEqual(tie_classes([even]), (((0, "x", "x"), (0, "y", "y")), ((0, "x", "y"), (0, "y", "x"))))
        self.assertEqual([len(tie_classes([arrow])), len(tie_classes([even, arrow])), are_parted([even, even], (0, "x", "y"), (1, "y", "x"))],
                         [4, 6, False])
        two = rooms_two()
        self.assertEqual([are_parted(two, (0, "x", "x"), (1, "x", "x")), is_like(two, "not.back", (0, "x"), (1, "x"))], [True, True])

    def test_against_partings_refined_one_by_one(self):
        rng = drawing(181)
        mixed = 0
        for _ in range(80):
            rooms = drawn_ones(rng)
            classes = tie_classes(tuple(rooms))
            self.assertEqual(classes, plain.coarsest(rooms))
            self.assertTrue(plain.is_stable(rooms, classes))
            number = {couple: at for at, group in enumerate(classes) for couple in group}
            mixed += len(classes) < len(number)
            for _ in range(10):
                one, other = rng.choice(plain.couples(rooms)), rng.choice(plain.couples(rooms))
                self.assertIs(are_parted(rooms, list(one), other), number[one] != number[other])
        self.assertGreater(mixed, 40)

    def test_later_rounds(self):
        """A ring of eight and two rings of four are parted by going on; so are the ends of a path."""
        things = [f"t{k}" for k in range(8)]
        eight = Room(things, {}, {"l": [(things[k], things[(k + 1) % 8]) for k in range(8)]})
        fours = Room(things, {}, {"l": [(things[k], things[k - k % 4 + (k + 1) % 4]) for k in range(8)]})
        self.assertIs(are_parted([eight, fours], (0, "t0", "t0"), (1, "t0", "t0")), True)
        self.assertEqual(len(tie_classes([eight])), 8)
        self.assertEqual(tie_classes([eight, fours]), plain.coarsest([eight, fours]))

    def test_ties_fit_whole_classes(self):
        rng = drawing(182)
        for _ in range(60):
            rooms = drawn_ones(rng)
            classes = tie_classes(rooms)
            for _ in range(5):
                fitted = couples_of(pairs_in(rooms, drawn_tie(rng, rooms[0], 8)))
                self.assertTrue(all(set(group) <= fitted or not set(group) & fitted for group in classes))

    def test_a_tie_as_a_link(self):
        rng = drawing(183)
        for _ in range(30):
            rooms = drawn_ones(rng)
            tie = drawn_tie(rng, rooms[0], 6)
            self.assertEqual(tie_classes([with_tie(room, "more", tie) for room in rooms]), tie_classes(rooms))

    def test_what_sayings_part(self):
        """What a saying of not.back says alone is said by a tie, too: so these couples are parted."""
        rng = drawing(184)
        for _ in range(40):
            rooms = drawn_ones(rng)
            for one in plain.places(rooms):
                for other in plain.places(rooms):
                    if not is_like(rooms, "not.back", one, other):
                        self.assertIs(are_parted(rooms, (one[0], one[1], one[1]), (other[0], other[1], other[1])), True)

    def test_errors(self):
        even, couple = the_even(), (0, "x", "y")
        wide = Room([f"t{k}" for k in range(21)], {}, {"to": []})
        twenty = wide.kept(wide.things[:20])
        for value in ODD_VALUES + (even, [even, None]):
            self.raises(("BadBook", "rooms"), tie_classes, value)
            self.raises(("BadBook", "rooms"), are_parted, value, value, value)
        self.raises(("Unlike", "stock"), are_parted, [even] * 65 + [even.cut(links=[])], 1, 1)
        self.raises(("TooMany", "rooms", 64), are_parted, [even] * 65, 1, 1)
        self.raises(("TooMany", "rooms", 64), tie_classes, [even] * 65)
        for value in ODD_VALUES + ((0, "x"), (0, "x", "y", "x"), (1, "x", "y"), (-1, "x", "y"), (False, "x", "y"), (0, "z", "x"), (0, "x", "z"),
                                   (0, ["x"], "x"), "0xy", {0: 1, 1: 2, 2: 3}):
            self.raises(("BadTie", "one"), are_parted, [even], value, value)
            self.raises(("BadTie", "other"), are_parted, [even], couple, value)
            self.raises(("BadTie", "one"), are_parted, [wide], value, value)
        self.raises(("TooMany", "couples", 400), tie_classes, [wide])
        self.raises(("TooMany", "couples", 400), are_parted, [wide], (0, "t0", "t1"), (0, "t0", "t2"))
        self.raises(("TooMany", "couples", 400), tie_classes, [twenty, Room(["a"], {}, {"to": []})])
        self.assertEqual(len(tie_classes([twenty])), 2)
        self.assertEqual(len(tie_classes([even] * 64)), 2)


class TieSayings(Case):
    def test_papers(self):
        said, unsaid = TieSaid(tie=same_pairs()), TieUnsaid([0, "x", "x"], groups=[[[0, "x", "y"]]], other=(0, "y", "y"))
        self.assertEqual((said.word, said.parts, bool(said)), ("tiesaid", (said.tie,), True))
        self.assertEqual((unsaid.word, unsaid.parts), ("tieunsaid", ((0, "x", "x"), (0, "y", "y"), (((0, "x", "y"),),))))
        self.assertEqual((unsaid.one, unsaid.other, unsaid.groups, bool(unsaid)), (*unsaid.parts, False))
        self.assertTrue(said == TieSaid(Tie([("same",)])))
        self.assertFalse(said == Paper("tiesaid", same_pairs()))
        self.assertIsInstance(unsaid, Denial)
        self.assertNotIsInstance(said, Denial)

    def test_examples(self):
        two = rooms_two()
        found = say_pairs(two, [[("x", "p"), ("x", "q")], []])
        self.assertEqual([bool(found), pairs_in(two, found.tie), say_pairs(two[:1], [[("x", "q")]]).parts[:2],
                          pairs_around(two[:1], [[("x", "q")]])],
                         [True, ((("x", "p"), ("x", "q")), ()), ((0, "x", "q"), (0, "x", "p")), ((("x", "p"), ("x", "q")),)])

    def test_said_and_unsaid(self):
        rng = drawing(185)
        said = 0
        for _ in range(150):
            rooms = drawn_ones(rng)
            meant = drawn_pairs(rng, rooms)
            told = couples_of(meant)
            classes = plain.coarsest(rooms)
            mixed = [group for group in classes if set(group) & told and set(group) - told]
            paper = say_pairs(tuple(rooms), [[list(pair) for pair in pairs] for pairs in meant])
            self.assertTrue(paper == say_pairs(rooms, meant))
            self.assertIs(shows_tie(rooms, meant, paper), True)
            around = pairs_around(rooms, meant)
            self.assertEqual(couples_of(around), {couple for group in classes if set(group) & told for couple in group})
            self.assertEqual(around, tuple(tuple((x, y) for x in room for y in room if (x, y) in row) for room, row in zip(rooms, around)))
            if mixed:
                self.assertIsInstance(paper, TieUnsaid)
                self.assertEqual(paper.parts, (next(c for c in mixed[0] if c in told), next(c for c in mixed[0] if c not in told), classes))
            else:
                said += 1
                self.assertIsInstance(paper, TieSaid)
                self.assertEqual(couples_of(pairs_in(rooms, paper.tie)), told)
                self.assertEqual(around, pairs_in(rooms, paper.tie))
        self.assertGreater(said, 40)
        self.assertLess(said, 110)

    def test_class_ties(self):
        rng = drawing(186)
        for _ in range(60):
            rooms = drawn_ones(rng)
            ties, classes = class_ties(rooms), tie_classes(rooms)
            self.assertEqual(len(ties), len(classes))
            for tie, group in zip(ties, classes):
                self.assertIsInstance(tie, Tie)
                self.assertEqual(couples_of(plain.tie_pairs(room, tie) for room in rooms), set(group))

    def test_nothing_and_all(self):
        for rooms in ([the_even()], rooms_two(), [Room(["a"], {}, {})]):
            none, whole = [[] for _ in rooms], [[(x, y) for x in room for y in room] for room in rooms]
            self.assertEqual(couples_of(pairs_in(rooms, say_pairs(rooms, none).tie)), set())
            self.assertEqual(couples_of(pairs_in(rooms, say_pairs(rooms, whole).tie)), set(plain.couples(rooms)))
            self.assertEqual(pairs_around(rooms, none), tuple(() for _ in rooms))

    def test_sayings_as_ties(self):
        """A book that is said in not.back is said by a tie of each thing with itself."""
        rng = drawing(187)
        for _ in range(30):
            rooms = drawn_ones(rng)
            book = Book(rooms, [[thing for thing in room if rng.random() < 0.5] for room in rooms])
            if say_book(book, "not.back"):
                self.assertTrue(say_pairs(rooms, [[(thing, thing) for thing in crowd] for crowd in book.meant]))

    def test_errors(self):
        even = the_even()
        wide = Room([f"t{k}" for k in range(21)], {}, {"to": []})
        calls = (say_pairs, pairs_around, lambda rooms, meant: shows_tie(rooms, meant, None))
        for call in calls:
            for value in ODD_VALUES + (even, [even, None]):
                self.raises(("BadBook", "rooms"), call, value, value)
            self.raises(("Unlike", "stock"), call, [even] * 65 + [even.cut(links=[])], 1)
            for value in ODD_VALUES + ([], [[], []], [None], ["xy"], [["xy"]], [[("x",)]], [[("x", "y", "x")]], [[("x", "z")]], [[("z", "x")]],
                                       [[(["x"], "y")]], [{("x", "y"): 1}], [[("x", "y"), None]], [[("x", "y"), ("y", "x"), ["x", "y"]]],
                                       [[(0, "x", "y")]], {0: []}, [{("x", "y")}]):
                if value not in ([[]], ((),)):
                    self.raises(("BadTie", "meant"), call, [even], value)
            self.raises(("BadTie", "meant"), call, [wide], [[("t0", "no")]])
        self.raises(("Unlike", "stock"), class_ties, [even, even.cut(links=[])])
        for call in calls[:2]:
            self.raises(("TooMany", "rooms", 64), call, [even] * 65, None)
            self.raises(("TooMany", "couples", 400), call, [wide], [[]])
        self.raises(("TooMany", "couples", 400), class_ties, [wide])
        self.raises(("TooMany", "rooms", 64), class_ties, [even] * 65)
        for value in ODD_VALUES:
            self.raises(("BadBook", "rooms"), class_ties, value)
        self.assertIs(shows_tie([even] * 65, None, None), False)
        self.assertIs(shows_tie([wide], [[]], TieSaid(Tie([("none",)]))), False)
        self.assertIs(shows_tie([wide.kept(wide.things[1:])], [[]], TieSaid(Tie([("none",)]))), True)

    def test_soon_enough(self):
        start = time.time()
        rng = drawing(188)
        for many, size in ((1, 20), (4, 10), (64, 2)):
            rooms = [Room([f"t{k}" for k in range(size)], {"w": ["t0"]},
                          {f"l{k}": [(f"t{i}", f"t{j}") for i in range(size) for j in range(size) if rng.random() < 0.1] for k in range(2)})
                     for _ in range(many)]
            for meant in (drawn_pairs(rng, rooms), [[("t0", "t1")]] + [[]] * (many - 1)):
                self.assertIs(shows_tie(rooms, meant, say_pairs(rooms, meant)), True)
            class_ties(rooms)
        self.assertLess(time.time() - start, 30)


class ShownTies(Case):
    def test_examples(self):
        even, two = the_even(), rooms_two()
        twos = link_pairs("to") & over_tie(link_pairs("to"), ~same_pairs())
        self.assertEqual([shows_tie(two, [[("x", "p"), ("x", "q")], []], TieSaid(twos)),
                          shows_tie([even], [[("x", "x")]], TieUnsaid((0, "x", "x"), (0, "y", "y"), tie_classes([even])))], [True, True])

    def test_drawn_ties(self):
        rng = drawing(189)
        shown = 0
        for _ in range(150):
            rooms = drawn_ones(rng)
            tie = drawn_tie(rng, rooms[0], 5)
            pairs = [rng.sample(row, len(row)) for row in pairs_in(rooms, tie)]
            self.assertIs(shows_tie(rooms, pairs, TieSaid(tie)), True)
            other = drawn_pairs(rng, rooms, 0.3)
            wanted = couples_of(pairs) == couples_of(other)
            self.assertIs(shows_tie(rooms, other, TieSaid(tie)), wanted)
            shown += not wanted
        self.assertGreater(shown, 100)

    def test_sayings_of_the_stock(self):
        room = Room(["a", "b"], {"w": ["a"]}, {"l": [("a", "b")]})
        for tie, wanted in ((word_pairs("w"), True), (word_pairs("w") & word_pairs("w"), True), (word_pairs("v"), False),
                            (word_pairs("w") | word_pairs("v"), False), (word_pairs("w") | link_pairs("k"), False), (link_pairs("w"), False)):
            self.assertIs(shows_tie([room], [[("a", "a")]], TieSaid(tie)), wanted)
        for value in ODD_VALUES + (word_pairs("w"), "of w", (("of", "w"),), TieSaid):
            self.assertIs(shows_tie([room], [[("a", "a")]], value), False)
            self.assertIs(shows_tie([room], [[("a", "a")]], TieSaid(value)), value == word_pairs("w"))

    def test_bent_partings(self):
        rng = drawing(190)
        shown, refused = 0, 0
        for _ in range(150):
            rooms = drawn_ones(rng, (0,), 3)
            meant = drawn_pairs(rng, rooms)
            told = couples_of(meant)
            classes = [list(group) for group in tie_classes(rooms)]
            couples = plain.couples(rooms)
            for _ in range(6):
                groups = [rng.sample(group, len(group)) for group in rng.sample(classes, len(classes))]
                turn = rng.randrange(8)
                if turn == 0:
                    groups.pop()
                elif turn == 1:
                    groups[0].append(rng.choice(couples))
                elif turn == 2:
                    groups.append([groups[0].pop()])
                elif turn == 3 and len(groups) > 1:
                    groups[:2] = [groups[0] + groups[1]]
                elif turn == 4:
                    groups = [[couple] for couple in couples]
                one, other = rng.choice(couples), rng.choice(couples)
                held = [group for group in groups if set(group) & told and set(group) - told]
                if held and turn != 5:
                    one, other = sorted(set(held[0]) & told)[0], sorted(set(held[0]) - told)[0]
                told_once = sorted(couple for group in groups for couple in group) == sorted(couples) and all(groups)
                wanted = told_once and plain.is_stable(rooms, groups) and one in told and other not in told and any(
                    one in group and other in group for group in groups)
                self.assertIs(shows_tie(rooms, meant, TieUnsaid(one, other, groups)), wanted)
                shown += wanted
                refused += not wanted
        self.assertGreater(shown, 50)
        self.assertGreater(refused, 100)

    def test_finer_partings(self):
        """A stable parting need not be the coarsest one: that of the room by itself, or one by one way to exchange things."""
        room = Room(["a", "b", "c", "d"], {}, {"to": []})
        pairs = {"a": 0, "b": 0, "c": 1, "d": 1}
        groups = {}
        for couple in plain.couples([room]):
            _, x, y = couple
            groups.setdefault((x == y, pairs[x], pairs[y]), []).append(couple)
        fine = list(groups.values())
        self.assertTrue(plain.is_stable([room], fine))
        self.assertGreater(len(fine), len(tie_classes([room])))
        value = TieUnsaid((0, "a", "a"), (0, "b", "b"), fine)
        self.assertIs(shows_tie([room], [[("a", "a")]], value), True)
        self.assertIs(shows_tie([room], [[("a", "a")]], TieUnsaid((0, "a", "a"), (0, "c", "c"), fine)), False)
        self.assertIs(shows_tie([room], [[("a", "a"), ("b", "b")]], value), False)

    def test_each_thing_that_is_asked_of_a_stable_parting(self):
        loop = Room(["a", "b"], {"w": []}, {"l": [("a", "a")]})
        marked = Room(["a", "b"], {"w": ["a"]}, {"l": []})
        arrow = Room(["a", "b"], {"w": []}, {"l": [("a", "b")]})
        bare = Room(["a", "b"], {"w": []}, {"l": []})
        aa, ab, ba, bb = [(0, x, y) for x in "ab" for y in "ab"]
        even = [[aa, bb], [ab, ba]]
        for room, groups, wanted in ((bare, even, True), (loop, even, False), (marked, even, False), (arrow, even, False),
                                     (bare, [[aa, bb, ab, ba]], False), (bare, [[aa], [bb], [ab], [ba]], True), (bare, [[aa, bb], [ab], [ba]], False),
                                     (bare, [[aa], [bb], [ab, ba]], False)):
            self.assertIs(plain.is_stable([room], groups), wanted)
            one, other = (aa, bb) if [aa, bb] in groups else (ab, ba)
            if len(groups) < 4:
                self.assertIs(shows_tie([room], [[one[1:]]], TieUnsaid(one, other, groups)), wanted)

    def test_odd_values(self):
        even = the_even()
        meant, one, other, groups = [[("x", "x")]], (0, "x", "x"), (0, "y", "y"), tie_classes([the_even()])
        self.assertIs(shows_tie([even], meant, TieUnsaid(one, other, groups)), True)
        for value in ODD_VALUES + ((False, "x", "x"), (0, "x"), (0, "x", "z"), "0xx"):
            self.assertIs(shows_tie([even], meant, TieUnsaid(value, other, groups)), False)
            self.assertIs(shows_tie([even], meant, TieUnsaid(one, value, groups)), False)
            self.assertIs(shows_tie([even], meant, TieUnsaid(one, other, value)), False)
            self.assertIs(shows_tie([even], meant, TieUnsaid(one, other, [*groups, value])), False)
            self.assertIs(shows_tie([even], meant, TieUnsaid(one, other, [[*groups[0], value], groups[1]])), False)
        self.assertIs(shows_tie([even], meant, TieUnsaid(one, other, [[(False, "x", "x"), other], groups[1]])), False)
        self.assertIs(shows_tie([even], meant, TieUnsaid((False, "x", "x"), other, groups)), False)
        self.assertIs(shows_tie([even], meant, TieUnsaid(other, one, groups)), False)
        self.assertIs(shows_tie([even], meant, TieUnsaid(one, one, groups)), False)
        self.assertEqual(tie_pairs(even, same_pairs()), (("x", "x"), ("y", "y")))
