import time

from sayable.sayings import (Saying, above_of, any_thing, at_least, both_of, either_of, every_of, no_thing, of_word, some_of,
                             top_of)
from tests.helpers import Case, ODD_VALUES, drawing, drawn_room, drawn_saying

KINDS = (("thing",), ("nothing",), ("word", "w"), ("both", 0, 1), ("either", 0, 1), ("not", 0), ("some", "l", "on", 0),
         ("every", "l", "back", 1), ("least", 2, "l", "on", 0), ("least", 40, "l", "back", 1), ("top", "s", 0), ("above", "s", "w"))
AHEAD = [("word", "a"), ("word", "b")]


def tree_of(saying):
    """The saying as a tree, for one form: equal trees, equal sayings."""
    trees = []
    for part in saying.parts:
        trees.append(tree_part(part, trees))
    return trees[-1]


def tree_part(part, trees):
    kind = part[0]
    bearing = {"both": 2, "either": 2, "not": 1, "some": 1, "every": 1, "least": 1, "top": 1}.get(kind, 0)
    head = part[:len(part) - bearing]
    return (*head, *[trees[number] for number in part[len(part) - bearing:]])


def parts_by_walk(tree, parts):
    """One form by the walk of point 6, with the tree in hand."""
    numbers = [parts_by_walk(item, parts) for item in tree if isinstance(item, tuple)]
    part = tuple(item for item in tree if not isinstance(item, tuple)) + tuple(numbers)
    if part not in parts:
        parts.append(part)
    return parts.index(part)


def depth_of(tree):
    below = max([depth_of(item) for item in tree if isinstance(item, tuple)], default=0)
    return below + (tree[0] in ("some", "every", "least"))


class Sayings(Case):
    def test_examples(self):
        red = some_of("left", of_word("red"))
        self.assertEqual([str(red), red.depth, str(red & of_word("cup")), str(~red | of_word("red")),
                          str(both_of(of_word("cup"), of_word("cup")))],
                         ["word red / some left on 0", 1, "word red / some left on 0 / word cup / both 1 2",
                          "word red / some left on 0 / not 1 / either 2 0", "word cup / both 0 0"])
        odd = Saying([("word", "b"), ("word", "a"), ("thing",), ("both", 1, 0)])
        self.assertEqual([odd.parts, odd.kinds, at_least(2, "left", top_of("size", odd), True).links, above_of("size", "cup").words],
                         [(("word", "a"), ("word", "b"), ("both", 0, 1)), ("both", "word"), ("left",), ("cup",)])
        self.raises(("BadText", 0, 8), Saying.read, "word b / word a / both 1 0")
        self.raises(("BadText", 0, 4), Saying.read, "word a / word a / both 0 1")

    def test_each_kind(self):
        for part in KINDS:
            saying = Saying([*AHEAD, list(part)])
            self.assertEqual(Saying.read(str(saying)), saying)
            self.assertIn(part[0], saying.kinds)
            self.assertEqual(saying.depth, int(part[0] in ("some", "every", "least")))
            self.assertIs(saying.is_back, "back" in part)
            self.assertEqual(saying.links, ("l",) if "l" in part else ())
            self.assertEqual(saying.scales, ("s",) if "s" in part else ())
            self.assertEqual(("w" in saying.words), "w" in part)
            self.assertEqual(len(saying), len(saying.parts))

    def test_one_form(self):
        rng = drawing(5)
        for _ in range(400):
            room = drawn_room(rng, 2, 2, 2, 1)
            saying = drawn_saying(rng, room, 9)
            walked = []
            tree = tree_of(saying)
            parts_by_walk(tree, walked)
            self.assertEqual(saying.parts, tuple(walked))
            self.assertEqual(saying.depth, depth_of(tree))
            self.assertEqual(Saying(saying.parts), saying)
            self.assertEqual(Saying.read(str(saying)), saying)
            self.assertEqual(str(saying), " / ".join(" ".join(map(str, part)) for part in saying.parts))
            self.assertEqual(saying.kinds, tuple(sorted({part[0] for part in walked})))
            self.assertIs(saying.is_back, any("back" in part for part in walked))
            self.assertEqual(saying.words, tuple(sorted({part[-1] for part in walked if part[0] in ("word", "above")})))

    def test_equal_and_needless_parts(self):
        a, b = ("word", "a"), ("word", "b")
        self.assertEqual(Saying([a, b, a, ("both", 0, 2)]).parts, (a, ("both", 0, 0)))
        self.assertEqual(Saying([b, a]).parts, (a,))
        self.assertEqual(Saying([a, ("not", 0), ("not", 0), a, ("both", 2, 1), ("either", 4, 3)]).parts,
                         (a, ("not", 0), ("both", 1, 1), ("either", 2, 0)))
        self.assertEqual(Saying([a, b, ("both", 0, 1)]) == Saying([b, a, ("both", 0, 1)]), False)
        self.assertNotEqual(Saying([a, ("both", 0, 0)]), Saying([a]))
        for value in ODD_VALUES + ("word a", (a,)):
            self.assertFalse(Saying([a]) == value)

    def test_wrong_parts(self):
        self.raises(("BadSaying", "parts"), Saying, of_word("a"))
        for value in ODD_VALUES:
            self.raises(("BadSaying", "parts"), Saying, value)
            self.raises(("BadSaying", "parts"), Saying, [("thing",), value])
            self.raises(("BadSaying", "parts"), Saying, [value, ("thing",)])
            self.raises(("BadSaying", "parts"), Saying, [(value,)])
            self.raises(("BadSaying", "parts"), Saying, [("word", value)])
            self.raises(("BadSaying", "parts"), Saying, [*AHEAD, ("top", value, 0)])
            self.raises(("BadSaying", "parts"), Saying, [*AHEAD, ("some", "l", value, 0)])
            self.raises(("BadSaying", "parts"), Saying, [*AHEAD, ("not", value)])
            self.raises(("BadSaying", "parts"), Saying, [*AHEAD, ("both", 0, value)])
            self.raises(("BadSaying", "parts"), Saying, [*AHEAD, ("least", value, "l", "on", 0)])
        for part in KINDS:
            self.raises(("BadSaying", "parts"), Saying, [*AHEAD, part[:-1]])
            self.raises(("BadSaying", "parts"), Saying, [*AHEAD, (*part, 0)])
        for part in (("word", "W"), ("both", 0, 2), ("both", -1, 0), ("not", 2), ("not", True), ("not", "0"), ("some", "l", "up", 0),
                     ("some", "l", "on", 2), ("every", "7", "on", 0), ("least", 1, "l", "on", 0), ("least", 41, "l", "on", 0),
                     ("least", True, "l", "on", 0), ("least", 2, "l", "on", 3), ("top", "s", 2), ("above", "s", 0), ("Thing",), ("of", "a")):
            self.raises(("BadSaying", "parts"), Saying, [*AHEAD, part, ("thing",)])
        self.raises(("BadSaying", "parts"), Saying, [("not", 0)])

    def test_what_was_passed_may_change(self):
        parts = [["word", "a"], ["not", 0]]
        saying = Saying(parts)
        parts[0][1] = "b"
        parts.append(None)
        self.assertEqual(saying.parts, (("word", "a"), ("not", 0)))
        self.assertEqual(Saying((("word", "a"), ("not", 0))), saying)

    def test_signs(self):
        rng = drawing(6)
        for _ in range(100):
            room = drawn_room(rng, 2, 2, 2, 1)
            one, other = drawn_saying(rng, room), drawn_saying(rng, room)
            self.assertEqual(tree_of(one & other), ("both", tree_of(one), tree_of(other)))
            self.assertEqual(tree_of(one | other), ("either", tree_of(one), tree_of(other)))
            self.assertEqual(tree_of(~one), ("not", tree_of(one)))
            for made in (one & other, one | other, ~one):
                self.assertEqual(Saying(made.parts), made)
        for value in ODD_VALUES + ("word a", ("thing",)):
            self.raises(("BadSaying", "other"), lambda: of_word("a") & value)
            self.raises(("BadSaying", "other"), lambda: of_word("a") | value)

    def test_functions(self):
        a, b, c = of_word("a"), of_word("b"), of_word("c")
        self.assertEqual([str(any_thing()), str(no_thing()), str(both_of()), str(either_of())], ["thing", "nothing", "thing", "nothing"])
        self.assertEqual([both_of(a), either_of(b)], [a, b])
        self.assertEqual([both_of(a, b, c), either_of(c, a, c)], [(a & b) & c, (c | a) | c])
        self.assertEqual([str(some_of("l", a)), str(every_of("l", a, True)), str(at_least(40, "l", a, back=True))],
                         ["word a / some l on 0", "word a / every l back 0", "word a / least 40 l back 0"])
        self.assertEqual([some_of("l", a, False).parts, at_least(2, "l", a).parts[1]],
                         [(("word", "a"), ("some", "l", "on", 0)), ("least", 2, "l", "on", 0)])
        self.assertEqual([top_of("s", a & b).parts[-1], above_of("s", "w").parts], [("top", "s", 2), (("above", "s", "w"),)])

    def test_errors_of_functions(self):
        a = of_word("a")
        for value in ODD_VALUES + ("A", "a" * 13, "a.b.c.d.e.f.g", a):
            self.raises(("BadSaying", "name"), of_word, value)
            self.raises(("BadSaying", "link"), some_of, value, None)
            self.raises(("BadSaying", "link"), every_of, value, None, True)
            self.raises(("BadSaying", "link"), at_least, 2, value, None)
            self.raises(("BadSaying", "scale"), top_of, value, None)
            self.raises(("BadSaying", "scale"), above_of, value, None)
            self.raises(("BadSaying", "name"), above_of, "s", value)
        for value in ODD_VALUES + ("a", ("thing",)):
            self.raises(("BadSaying", "saying"), some_of, "l", value)
            self.raises(("BadSaying", "saying"), every_of, "l", value, True)
            self.raises(("BadSaying", "saying"), at_least, 2, "l", value)
            self.raises(("BadSaying", "saying"), top_of, "s", value)
            self.raises(("BadSaying", "sayings"), both_of, value)
            self.raises(("BadSaying", "sayings"), both_of, a, a, value)
            self.raises(("BadSaying", "sayings"), either_of, value, a)
            self.raises(("BadNumbers", "many"), at_least, value, None, None)
        for value in (0, 1, 41, -2, 2.0, True, "2"):
            self.raises(("BadNumbers", "many"), at_least, value, "7", a)
        six = "a.b.c.d.e.f"
        self.assertEqual([of_word(six).words, some_of(six, a).links, top_of(six, a).scales], [(six,)] * 3)

    def test_great_sayings(self):
        start = time.time()
        saying = some_of("l", of_word("a"))
        for _ in range(40):
            saying = saying & saying
        self.assertEqual((len(saying), saying.depth), (42, 1))
        for number in range(500):
            saying = some_of("l", saying) if number % 100 == 0 else ~saying
        self.assertEqual((len(saying), saying.depth), (542, 6))
        self.assertEqual(Saying.read(str(saying)), saying)
        deep = both_of(*[of_word(f"w{number}") for number in range(3000)])
        self.assertEqual(len(deep), 5999)
        self.assertEqual(Saying.read(str(deep)), deep)
        self.assertLess(time.time() - start, 20)
