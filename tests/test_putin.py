import time

from sayable.putin import put_in, words_left
from sayable.reads import reading_of
from sayable.rooms import Room
from sayable.sayings import Saying, above_of, any_thing, of_word, some_of, top_of
from sayable.ways import way_lets
from tests import plain
from tests.helpers import Case, ODD_VALUES, drawing, drawn_room, drawn_saying
from tests.test_sayings import tree_of


def put_tree(tree, told):
    if tree[0] == "word" and tree[1] in told:
        return tree_of(told[tree[1]])
    return tuple(put_tree(item, told) if isinstance(item, tuple) else item for item in tree)


class PutIn(Case):
    def test_examples(self):
        red = some_of("left", of_word("red"))
        odd = Saying([("word", "b"), ("word", "a"), ("thing",), ("both", 1, 0)])
        self.assertEqual([str(put_in(red, {"red": of_word("small") & of_word("cup")})), words_left(odd, {"b": red})],
                         ["word small / word cup / both 0 1 / some left on 2", ("a",)])
        self.assertEqual([str(put_in(odd, {"a": of_word("b"), "b": of_word("a")})),
                          str(put_in(put_in(odd, {"a": of_word("b")}), {"b": of_word("a")}))],
                         ["word b / word a / both 0 1", "word a / both 0 0"])

    def test_drawn(self):
        rng = drawing(31)
        room = Room(["a"], {f"w{k}": [] for k in range(3)}, {"l": []}, {"s": {}})
        for _ in range(300):
            saying = drawn_saying(rng, room, 8)
            told = {word: drawn_saying(rng, room, 5) for word in ("w0", "w1", "w9") if rng.random() < 0.7}
            self.assertEqual(words_left(saying, told), tuple(word for word in saying.words if word not in told))
            if any(part[0] == "above" and part[2] in told for part in saying.parts):
                self.raises(("Unlike", "above"), put_in, saying, told)
                continue
            made = put_in(saying, told)
            self.assertEqual(tree_of(made), put_tree(tree_of(saying), told))
            self.assertEqual(Saying(made.parts), made)
            self.assertLessEqual(made.depth, saying.depth + max([one.depth for one in told.values()], default=0))
        self.assertEqual(put_in(saying, {}), saying)

    def test_readings_stay(self):
        """Where a word holds of just what its saying fits."""
        rng = drawing(32)
        for _ in range(150):
            room = drawn_room(rng, 5, 2, 2, 1)
            told = {"x": drawn_saying(rng, room, 5), "y": drawn_saying(rng, room, 5)}
            both = Room(room.things, {**room.word_lists(), **{word: reading_of(room, told[word]) for word in told}},
                        room.link_lists(), room.scale_dicts())
            saying = drawn_saying(rng, both, 7, [kind for kind in plain.ALL_KINDS if kind != "above"])
            self.assertEqual(reading_of(room, put_in(saying, told)), reading_of(both, saying))

    def test_all_at_once_and_one_behind_the_other(self):
        rng = drawing(33)
        room = Room(["a"], {"w0": [], "w1": []}, {"l": []})
        for _ in range(100):
            saying = drawn_saying(rng, room, 6)
            one, other = drawn_saying(rng, room, 4), of_word("w2")
            first = put_in(put_in(saying, {"w0": one}), {"w1": other})
            self.assertEqual(first, put_in(saying, {"w0": put_in(one, {"w1": other}), "w1": other}))

    def test_ways_stay(self):
        rng = drawing(34)
        room = Room(["a"], {"w0": [], "w1": []}, {"l": []})
        for way in plain.TWELVE:
            for saying, told in zip(plain.some_sayings(rng, room, way, 40, drawn_saying), plain.some_sayings(rng, room, way, 40, drawn_saying)):
                self.assertTrue(way_lets(way, put_in(saying, {"w0": told})))

    def test_above(self):
        saying = above_of("s", "w") & of_word("v")
        self.assertEqual(words_left(saying, {}), ("v", "w"))
        self.assertEqual(words_left(saying, {"w": of_word("a"), "z": of_word("b")}), ("v",))
        self.raises(("Unlike", "above"), put_in, saying, {"w": of_word("a")})
        self.assertEqual(put_in(saying, {"v": above_of("s", "v")}), above_of("s", "w") & above_of("s", "v"))
        self.assertEqual(put_in(top_of("s", of_word("w")), {"w": any_thing()}), top_of("s", any_thing()))

    def test_wrong_values(self):
        saying = above_of("s", "w")
        for value in ODD_VALUES + ("word a",):
            self.raises(("BadSaying", "saying"), put_in, value, value)
            self.raises(("BadSaying", "saying"), words_left, value, value)
        for value in (None, 5, "w", [], [("w", saying)], {"w": None}, {"W": saying}, {"w": saying, "v": "word a"}, {5: saying},
                      {None: saying}, {"w": [saying]}, {"a.b.c.d.e.f.g": saying}, {True: saying}, saying):
            self.raises(("BadSaying", "told"), put_in, saying, value)
            self.raises(("BadSaying", "told"), words_left, saying, value)

    def test_great_sayings(self):
        start = time.time()
        doubled = of_word("w")
        for _ in range(40):
            doubled = doubled & doubled
        made = put_in(doubled, {"w": doubled})
        self.assertEqual(len(made), 81)
        self.assertLess(time.time() - start, 5)
