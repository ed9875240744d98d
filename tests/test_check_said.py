from sayable.books import Book
from sayable.check_said import shows_said
from sayable.rooms import Room
from sayable.said import Said, Unsaid, say_book
from sayable.sayings import Saying, any_thing, no_thing, of_word, some_of, top_of
from tests import plain
from tests.helpers import Case, ODD_VALUES, drawing
from tests.test_likeness import the_row
from tests.test_plainlike import drawn_point, drawn_rooms
from tests.test_points import fan
from tests.test_said import drawn_book


def bent_parts(rng, paper, book):
    """The parts of a paper with something left out, put in, or told otherwise."""
    parts = list(paper.parts)
    places = book.places()

    def bent_pairs(pairs):
        pairs = list(pairs)
        turn = rng.randrange(5)
        if turn == 0 and pairs:
            pairs.pop(rng.randrange(len(pairs)))
        elif turn == 1:
            pairs.append((drawn_point(rng, book.rooms), rng.choice(places)))
        elif turn == 2:
            pairs.append(((rng.choice(places),), rng.choice(places)))
        elif turn == 3 and pairs:
            at = rng.randrange(len(pairs))
            pairs[at] = (pairs[at][0], rng.choice(places))
        else:
            pairs = rng.sample(pairs, len(pairs)) + pairs[:2]
        return tuple(pairs)

    turn = rng.randrange(4)
    if turn == 0:
        parts[-3] = rng.choice([None, drawn_point(rng, book.rooms), (rng.choice(places),), book.meant_places()])
    elif turn == 1:
        parts[-2] = rng.choice([None, *places])
    elif isinstance(paper, Unsaid):
        parts[-1] = bent_pairs(parts[-1])
    else:
        stages = list(parts[-1])
        if stages and turn == 2:
            at = rng.randrange(len(stages))
            stages[at] = bent_pairs(stages[at])
        elif stages and rng.random() < 0.7:
            stages.pop(rng.randrange(len(stages)))
        else:
            stages.append((((rng.choice(places),), rng.choice(places)),))
        parts[-1] = tuple(stages)
    return parts


class ShownPapers(Case):
    def test_example(self):
        row = the_row()
        first, last = Book([row], [["a"]]), Book([row], [["c"]])
        said = say_book(first, "plain")
        unsaid = Unsaid([(0, "c")], (0, "a"), [([(0, "c")], (0, "a"))])
        self.assertEqual([shows_said(last, "many", unsaid), shows_said(last, "every", unsaid), shows_said(last, "many", said)],
                         [True, False, False])
        self.assertIs(shows_said(first, "plain", said), True)
        self.assertIs(shows_said(first, "either", said), True)

    def test_bent_papers(self):
        rng = drawing(151)
        shown, refused = {}, 0
        for _ in range(70):
            rooms = drawn_rooms(rng)
            book = drawn_book(rng, rooms)
            for way in plain.TWELVE:
                paper = say_book(book, way)
                for _ in range(4):
                    parts = bent_parts(rng, paper, book)
                    bent = Unsaid(*parts) if isinstance(paper, Unsaid) else Said(*parts)
                    wanted = plain.shows_said(book, way, bent)
                    self.assertIs(shows_said(book, way, bent), wanted, (way, bent.parts))
                    kind = (type(bent).__name__, way.split(".")[0])
                    shown[kind] = shown.get(kind, 0) + wanted
                    refused += not wanted
        self.assertEqual(len(shown), 12)
        self.assertGreater(min(shown.values()), 10)
        self.assertGreater(refused, 500)

    def test_other_ways_and_books(self):
        rng = drawing(152)
        for _ in range(40):
            rooms = drawn_rooms(rng)
            book, another = drawn_book(rng, rooms), drawn_book(rng, rooms)
            for way in plain.TWELVE:
                paper = say_book(book, way)
                for told in (book, another):
                    for other in rng.sample(plain.TWELVE, 3):
                        self.assertIs(shows_said(told, other, paper), plain.shows_said(told, other, paper))

    def test_whole_stages(self):
        """All pairs that are like for so many rounds are right stages, too, in any order."""
        rng = drawing(153)
        seen = 0
        for _ in range(40):
            rooms = drawn_rooms(rng)
            book = drawn_book(rng, rooms)
            for way in plain.TWELVE:
                paper = say_book(book, way)
                if not isinstance(paper, Said) or not paper.stages:
                    continue
                if way.startswith("plain"):
                    rounds = [sorted(pairs) for pairs in plain.point_likes(rooms, way, paper.point)]
                else:
                    rounds = [[((one,), other) for one, other in plain.like_for(rooms, way, k)] for k in range(len(paper.stages))]
                stages = [rounds[min(k, len(rounds) - 1)] for k in range(len(paper.stages))]
                for stage in stages:
                    rng.shuffle(stage)
                told = Said(paper.saying, list(paper.point), list(paper.place), [stage + stage[:1] for stage in stages])
                self.assertIs(shows_said(book, way, told), True)
                seen += 1
        self.assertGreater(seen, 30)

    def test_sayings(self):
        row = the_row()
        first, red = Book([row], [["a"]]), Book([row], [["b"]])
        a, b, c = (0, "a"), (0, "b"), (0, "c")
        stages = [[[[a], c]]]
        good = some_of("left", of_word("red"))
        self.assertIs(shows_said(first, "plain", Said(good, [a], b, [[[[a], b]]])), True)
        self.assertIs(shows_said(first, "full.back", Said(good, [a], c, stages)), True)
        self.assertIs(shows_said(first, "full.back", Said(good & any_thing(), [a], c, stages)), True)
        self.assertIs(shows_said(first, "plain", Said(good & any_thing(), [a], c, stages)), True)
        for value in (None, str(good), of_word("red"), good & of_word("blue"), good | some_of("right", of_word("red")), good.parts,
                      some_of("right", of_word("red")), top_of("size", good), good & some_of("left", top_of("size", any_thing())),
                      some_of("left", good), good | some_of("left", some_of("left", any_thing()))):
            self.assertIs(shows_said(first, "full.back", Said(value, [a], c, stages)), False)
        self.assertIs(shows_said(first, "plain", Said(good | no_thing(), [a], c, stages)), False)
        self.assertIs(shows_said(first, "either", Said(good | no_thing(), [a], c, stages)), True)
        self.assertIs(shows_said(red, "plain", Said(of_word("red"), None, None, ())), True)
        self.assertIs(shows_said(red, "plain", Said(of_word("red"), None, None, [[]])), False)
        self.assertIs(shows_said(red, "plain", Said(of_word("red"), [b], None, ())), False)
        self.assertIs(shows_said(red, "plain", Said(of_word("red"), None, a, ())), False)
        self.assertIs(shows_said(red, "plain", Said(of_word("red"), [], None, ())), False)
        lone = Room(["a", "b"], {"p": ["a"]}, {"l": []}, {"s": {"a": 1, "b": 0}})
        self.assertIs(shows_said(Book([lone], [["a"]]), "full", Said(top_of("s", any_thing()), None, None, ())), False)
        back = some_of("left", of_word("red"), True)
        last = Book([row], [["c"]])
        value = Said(back, [c], a, [[[[c], a]]])
        self.assertEqual([shows_said(last, way, value) for way in ("plain", "plain.back", "either.back", "full")], [False, True, True, False])

    def test_truths_and_odd_values(self):
        row = the_row()
        book, a, b, c = Book([row, row], [["a"], ["a"]]), (0, "a"), (0, "b"), (0, "c")
        saying = some_of("left", of_word("red"))
        for way, point in (("either", [(1, "a")]), ("plain", [a, (1, "a")])):
            good = [saying, point, b, [[[point, b]]]]
            self.assertIs(shows_said(book, way, Said(*good)), True)
            false_place, true_point = (False, "b"), [(True if k else k, t) for k, t in point]
            for at, value in ((1, true_point), (2, false_place), (3, [[[point, false_place]]]), (3, [[[true_point, b]]]),
                              (3, [[[point, b], [[(True, "a")], b]]])):
                self.assertIs(shows_said(book, way, Said(*good[:at], value, *good[at + 1:])), False)
            for value in ODD_VALUES:
                for at in range(4):
                    if not (isinstance(value, dict) and any(isinstance(key, str) for key in value)):
                        self.assertIs(shows_said(book, way, Said(*good[:at], value, *good[at + 1:])), False)
                for deep in ([value], [[value]], [[[value, b]]], [[[point, value]]], [[[point, b], value]], [[[point, b]], value],
                             [[[[value], b], [point, b]]], [[[[(0, value)], b], [point, b]]], [[[point, b], [point, (value, "a")]]]):
                    if deep != [[[point, b], []]] and value != {}:
                        self.assertIs(shows_said(book, way, Said(*good[:3], deep)), False, deep)
            last = book.changed(meant=[["c"], ["c"]])
            unsaid = [[(0, "c")] if way == "either" else [c, (1, "c")], a, [[[(0, "c")] if way == "either" else [c, (1, "c")], a]]]
            self.assertIs(shows_said(last, way, Unsaid(*unsaid)), True)
            self.assertIs(shows_said(last, way, Unsaid(unsaid[0], (False, "a"), unsaid[2])), False)
            for value in ODD_VALUES:
                for at in range(3):
                    self.assertIs(shows_said(last, way, Unsaid(*unsaid[:at], value, *unsaid[at + 1:])), False)
                self.assertIs(shows_said(last, way, Unsaid(*unsaid[:2], [*unsaid[2], value])), False)
        for value in ODD_VALUES + (row, Saying, Said, saying, ("said", saying, None, None, ())):
            self.assertIs(shows_said(book, "plain", value), False)

    def test_points_of_several_places(self):
        """In the ways that have "or" a point has one place; in the plain ones the book's point has all."""
        bare = Room(["a", "b", "c"], {}, {})
        book = Book([bare], [["a", "b"]])
        a, b, c = (0, "a"), (0, "b"), (0, "c")
        for way in ("either", "full.back"):
            self.assertIs(shows_said(book, way, Unsaid([a], c, [([a], c)])), True)
            self.assertIs(shows_said(book, way, Unsaid([b], c, [([a], c), ([b], c)])), True)
            self.assertIs(shows_said(book, way, Unsaid([a, b], c, [([a, b], c)])), False)
            self.assertIs(shows_said(book, way, Unsaid([a], c, [([a], c), ([a, b], c)])), False)
            self.assertIs(shows_said(book, way, Unsaid([a], b, [([a], b)])), False)
            self.assertIs(shows_said(book, way, Unsaid([c], c, [([c], c)])), False)
            self.assertIs(shows_said(book, way, Unsaid([a], c, [])), False)
        for way in ("plain", "plain.back"):
            self.assertIs(shows_said(book, way, Unsaid([a, b], c, [([a, b], c)])), True)
            self.assertIs(shows_said(book, way, Unsaid([a, b], c, [([a, b], c), ([a, b, c], a), ([b], a)])), True)
            self.assertIs(shows_said(book, way, Unsaid([a], c, [([a], c), ([a, b], c)])), False)
            self.assertIs(shows_said(book, way, Unsaid([b, a], c, [([b, a], c)])), False)
            self.assertIs(shows_said(book, way, Unsaid([a, b, c], c, [([a, b, c], c)])), False)
            self.assertIs(shows_said(book, way, Unsaid([a, b], b, [([a, b], b)])), False)

    def test_too_many_places(self):
        many = [Room([f"t{k}" for k in range(40)], {}, {})] * 3
        a, b = (0, "t0"), (0, "t1")
        value = Unsaid([a], b, [([a], b)])
        for way in ("either", "plain"):
            self.assertIs(shows_said(Book(many, [["t0"], [], []]), way, value), False)
            self.assertIs(shows_said(Book(many[:2], [["t0"], []]), way, value), True)

    def rooted(self, *sizes):
        """Rooms with a root that leads to as many heads as told; the first room has a marked head."""
        return [Room(["r", *[f"h{k}" for k in range(many)]], {"root": ["r"], "one": ["h0"] if at == 0 else []},
                     {"l": [("r", f"h{k}") for k in range(many)]}) for at, many in enumerate(sizes)]

    def test_books_with_too_many_points(self):
        """A word says them, but all points that come about are asked."""
        value = Said(of_word("root"), None, None, ())
        for sizes, wanted in (((35, 11, 13), False), ((10, 20, 25), False), ((16, 16, 19), True)):
            book = Book(self.rooted(*sizes), [["r"]] * 3)
            self.assertIs(shows_said(book, "either", value), True)
            self.assertIs(shows_said(book, "plain", value), wanted)

    def test_points_with_too_many_choices(self):
        """They are not right, also where only round 0 is asked of them."""
        rooms = self.rooted(35, 11, 13)
        roots, heads = [(0, "r"), (1, "r"), (2, "r")], [(0, "h1"), (1, "h0"), (2, "h0")]
        saying, root, other = some_of("l", of_word("one")), [(0, "r")], (1, "r")
        book = Book(rooms, [["r"], [], []])
        for more, wanted in (([], True), ([(roots[:2], roots[2])], True), ([(roots, roots[2])], False)):
            self.assertIs(shows_said(book, "plain", Said(saying, root, other, [[(root, other), *more]])), wanted)
        book = Book(rooms, [["h1"], ["h0"], ["h0"]])
        for more, wanted in (([], True), ([(heads[:1], heads[2])], True), ([(roots, roots[2])], False)):
            self.assertIs(shows_said(book, "plain", Unsaid(heads, (0, "h2"), [(heads, (0, "h2")), *more])), wanted)
        self.assertIs(shows_said(book, "plain.back", Unsaid(heads, (0, "h2"), [(heads, (0, "h2"))])), False)

    def test_errors(self):
        row = the_row()
        book = Book([row], [["a"]])
        for value in ODD_VALUES + (row, [row]):
            self.raises(("BadBook", "book"), shows_said, value, value, value)
            self.raises(("NoWay", value), shows_said, book, value, value)
        many = Book([Room([f"t{k}" for k in range(40)], {}, {})] * 3, [["t0"], [], []])
        self.raises(("NoWay", "no"), shows_said, many, "no", None)
        self.assertIs(shows_said(many, "plain", None), False)
